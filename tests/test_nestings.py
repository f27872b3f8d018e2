import unittest

import reference
from samples import FOURS, GREAT, LEAF, NO_INTEGERS, ONES, THREE, THREES, TWO, TWOS, StrictCase
from test_alikes import NO_PATTERNS
from threadsround.fallings import fallen, falls_round
from threadsround.mirrors import inside_out
from threadsround.nestings import nested
from threadsround.patternchecker import is_pattern

SOME = [*ONES[::2], *TWOS[::128], *THREES[::15], *FOURS[::25], THREE]


def corners_with(pattern, total):
    return reference.faces(pattern)[reference.totals(pattern).index(total)]


def each_nest():
    for pattern in SOME:
        for other in SOME:
            for corner in corners_with(pattern, -1):
                for place in corners_with(other, 1):
                    yield pattern, corner, other, place


class NestingsTest(StrictCase):
    def test_nested(self):
        for pattern, corner, other, place in each_nest():
            result = nested(pattern, corner, other, place)
            self.same(result, reference.nested(pattern, corner, other, place))
            self.same(is_pattern(result), True)
            self.assertEqual(reference.cut(result), reference.cut(pattern) + reference.cut(other))
        self.same(nested(TWO, 2, LEAF, 0), ((1, 1), (0, -1), (8, 0), (9, 1), (10, 0), (11, -1), (7, 0), (6, 0), (2, 0),
                                            (3, -1), (4, 0), (5, 1)))

    def test_falls_round_into_both(self):
        for pattern, corner, other, place in each_nest():
            result = nested(pattern, corner, other, place)
            new = len(result) // 4 - 1
            letter = "L" if reference.cut(other) % 2 == 0 else "D"
            self.same(falls_round(result, new, letter), True)
            self.same(fallen(result, new, letter), (pattern, other))

    def test_far_shifts(self):
        far = reference.moved_crossings(THREE, [40, -9])
        self.same(nested(far, 6, far, 0), reference.nested(far, 6, far, 0))

    def test_refusals(self):
        names = ("pattern", "corner", "other", "place")
        self.refuses_in_order(nested, names, (THREE, 6, TWO, 0), ((), (*NO_INTEGERS, -1, 0, 1, 2, 5, 7, 8, GREAT),
                                                                 NO_PATTERNS, (*NO_INTEGERS, -1, 1, 2, 3, 4, GREAT)))
        self.not_usable("corner", nested, THREE, 2, TWO, 0)
        self.not_usable("corner", nested, inside_out(THREE), False, TWO, 0)
        self.not_usable("place", nested, inside_out(THREE), 0, TWO, False)
        self.not_usable("place", nested, TWO, 2, LEAF, 2)


if __name__ == "__main__":
    unittest.main()
