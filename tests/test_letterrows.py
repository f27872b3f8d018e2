import unittest

import reference
import reference_rows
from samples import FAR, FOUR, GREAT, LEAF, MANY, NO_INTEGERS, ONES, THREE, TWO, StrictCase
from test_ringrows import STRANDS
from threadsround.fallings import fallen, falls_round
from threadsround.letterrows import letter_rows
from threadsround.ringrows import ring_row
from threadsround.rows import row_plus
from threadsround.smoothings import smooth_word, smoothed


class LetterRowsTest(StrictCase):
    def test_examples(self):
        self.same((letter_rows(THREE, 0), letter_rows(FOUR, 1)), (((1,), (0, 1)), ((0, 2), (0, 0, 1))))
        self.same((letter_rows(TWO, 0), letter_rows(LEAF, 0)), (((0, 1), ()), ((1,), ())))

    def test_beside_all_plain_layings(self):
        for pattern in [*MANY, *ONES, *STRANDS]:
            for crossing in range(len(pattern) // 4):
                rows = letter_rows(pattern, crossing)
                wanted = tuple(reference_rows.ring_numbers(pattern, lambda laying: laying[crossing] == letter)
                               for letter in "DL")
                self.same(rows, wanted)
                self.same(row_plus(*rows), ring_row(pattern))
        self.same(letter_rows(pattern=FAR[0], crossing=1), letter_rows(THREE, 1))

    def test_smoothed_and_fallen(self):
        words = []
        for pattern in [*MANY[:-3], *STRANDS]:
            for crossing in range(len(pattern) // 4):
                for letter, row in zip("DL", letter_rows(pattern, crossing)):
                    word = smooth_word(pattern, crossing, letter)
                    if word == "alone":
                        continue
                    if word == "sound":
                        self.same(row, ring_row(smoothed(pattern, crossing, letter)))
                    elif falls_round(pattern, crossing, letter):
                        word = "round"
                        pieces = fallen(pattern, crossing, letter)
                        both = [((1,), 1) if piece is None else (ring_row(piece), reference.cut(piece)) for piece in pieces]
                        wanted = reference_rows.times(both[0][0], both[1][0])
                        self.same(row, (0, *wanted) if both[0][1] % 2 and both[1][1] % 2 else wanted)
                    else:
                        self.same(row, ())
                    words.append(word)
        self.assertTrue(all(words.count(word) > 20 for word in ("sound", "round", "apart", "joined")))

    def test_refusals(self):
        self.refuses_in_order(letter_rows, ("pattern", "crossing"), (THREE, 1), ((), (*NO_INTEGERS, -1, 2, GREAT)))


if __name__ == "__main__":
    unittest.main()
