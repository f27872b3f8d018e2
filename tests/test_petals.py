import unittest

import reference
from samples import FEW, GREAT, LEAF, NO_INTEGERS, OTHER_LETTER, SOME, THREE, TWO, StrictCase
from threadsround.patternchecker import is_pattern
from threadsround.petals import petal_on
from threadsround.smoothings import smoothed


def each_petal(patterns):
    for pattern in patterns:
        for end in range(len(pattern)):
            total = reference.totals(pattern)[reference.face_number(pattern, end)]
            for shift in sorted({0, total}):
                yield pattern, end, shift


class PetalsTest(StrictCase):
    def test_petals(self):
        shifts = {}
        for pattern, end, shift in each_petal(SOME):
            result = petal_on(pattern, end, shift)
            self.same(result, reference.petal_on(pattern, end, shift))
            self.same(is_pattern(result), True)
            shifts[shift] = True
        self.assertEqual(sorted(shifts), [-1, 0, 1])
        self.same(petal_on(pattern=TWO, end=0, shift=1), ((4, 0), (5, -1), (3, -1), (2, 1), (0, 0), (1, 1), (7, 1), (6, -1)))

    def test_faces_that_let_no_shift(self):
        for pattern, end, _ in each_petal(FEW):
            total = reference.totals(pattern)[reference.face_number(pattern, end)]
            for shift in (-2, -1, 1, 2):
                if shift != total:
                    self.not_usable("shift", petal_on, pattern, end, shift)
            for shift in (True, False, None, "0", (0,)):
                self.not_usable("shift", petal_on, pattern, end, shift)

    def test_windings(self):
        for pattern, end, shift in each_petal(FEW):
            if len(pattern) > 8:
                continue
            result = petal_on(pattern, end, shift)
            letter = reference.face_letter(pattern, end)
            new = len(pattern) // 4
            for laying in reference.layings(pattern):
                old = reference.windings(pattern, laying)
                if shift == 0:
                    self.same(reference.windings(result, laying + OTHER_LETTER[letter]), old)
                if shift >= 0:
                    more = tuple(sorted((*old, shift), reverse=True))
                    self.same(reference.windings(result, laying + letter), more)
            if shift == 0:
                self.same(smoothed(result, new, OTHER_LETTER[letter]), pattern)
            for corner in range(len(pattern)):
                changed = reference.is_dark(result, corner) != reference.is_dark(pattern, corner)
                self.assertEqual(changed, shift == -1)

    def test_refusals(self):
        bad = (*NO_INTEGERS, -1, 8, GREAT)
        self.refuses_in_order(petal_on, ("pattern", "end", "shift"), (THREE, 1, 0), ((), bad, (*NO_INTEGERS, 1, -1, GREAT)))
        self.refuses_in_order(petal_on, ("pattern", "end", "shift"), (THREE, 0, 1), ((), bad, (*NO_INTEGERS, -1, 2)))
        self.refuses_in_order(petal_on, ("pattern", "end", "shift"), (LEAF, 2, 0), ((), (*bad, 4), (*NO_INTEGERS, 1, -1)))
        self.not_usable("shift", petal_on, THREE, 6, 1)


if __name__ == "__main__":
    unittest.main()
