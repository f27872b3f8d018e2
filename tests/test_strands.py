import unittest
from itertools import product

import reference
from samples import FOUR, GREAT, NO_INTEGERS, THREE, TWO, StrictCase
from threadsround.patternchecker import is_pattern
from threadsround.strands import strand_pattern


def followed(width, word):
    """The pattern by going along each strand, crossing by crossing."""
    ends = [None] * (4 * len(word))
    for place in range(1, width + 1):
        stops = [(i, letter) for i, letter in enumerate(word) if place - letter in (0, 1)]
        for k, (i, letter) in enumerate(stops):
            j, other = stops[(k + 1) % len(stops)]
            leaving = 4 * i + {0: 0, 1: 3}[place - letter]
            coming = 4 * j + {0: 1, 1: 2}[place - other]
            shift = 0 if k + 1 < len(stops) else 1
            ends[leaving], ends[coming] = (coming, shift), (leaving, -shift)
    return tuple(ends)


class StrandsTest(StrictCase):
    def test_named_patterns(self):
        self.same(strand_pattern(2, (1,)), TWO)
        self.same(strand_pattern(3, (1, 2)), THREE)
        self.same(strand_pattern(4, (1, 2, 3)), FOUR)

    def test_each_short_word(self):
        for width in (2, 3, 4):
            for many in range(width - 1, 5):
                for word in product(range(1, width), repeat=many):
                    if len(set(word)) < width - 1:
                        continue
                    pattern = strand_pattern(width, word)
                    self.same(pattern, followed(width, word))
                    self.same(is_pattern(pattern), True)
                    self.assertEqual(reference.cut(pattern), width)
                    self.check_middle_and_outside(width, word, pattern)

    def check_middle_and_outside(self, width, word, pattern):
        totals, faces = reference.totals(pattern), reference.faces(pattern)
        inner = [4 * i for i, letter in enumerate(word) if letter == 1]
        outer = [4 * i + 2 for i, letter in enumerate(word) if letter == width - 1]
        self.assertEqual(sorted(faces[totals.index(1)]), inner)
        self.assertEqual(sorted(faces[totals.index(-1)]), outer)

    def test_long_words(self):
        up = tuple(range(1, 37))
        for width, word in ((37, up), (37, up[::-1]), (2, (1,) * 36), (5, (1, 2, 3, 4, 3, 2) * 6), (19, up[:18] * 2)):
            pattern = strand_pattern(width=width, word=word)
            self.same(pattern, followed(width, word))
            self.same(is_pattern(pattern), True)
            self.check_middle_and_outside(width, word, pattern)

    def test_refusals(self):
        no_words = (*NO_INTEGERS, 1, (), (1,), (1, 1), (2,), (0, 1, 2), (1, 2, 3), [1, 2], (True, 2), (1, 2, True),
                    (1, -2), "12", (1, 2, GREAT))
        self.refuses_in_order(strand_pattern, ("width", "word"), (3, (1, 2)),
                              ((*NO_INTEGERS, 1, 0, -1, -3), no_words))
        self.not_usable("width", strand_pattern, 1, ())
        self.not_usable("word", strand_pattern, 2, ())
        self.not_usable("word", strand_pattern, GREAT, (1,))
        self.not_usable("word", strand_pattern, 4, (1, 2))


if __name__ == "__main__":
    unittest.main()
