import unittest

import reference
from samples import FEW, GREAT, NO_INTEGERS, ODD, ONES, SOME, THREE, TWO, StrictCase
from threadsround.layingkinds import is_laying, is_plain, joined_end, letter_for

NO_LAYINGS = (True, None, 0, "", "D", "DLX", "dl", "D ", " DL", "DL\n", "DY", ("D", "L"), ["D", "L"], ("DL",), ())


class LayingKindsTest(StrictCase):
    def test_examples(self):
        self.same(letter_for(THREE, 0, 0, 1), "L")

    def test_is_laying_and_is_plain(self):
        for size, thing, laying, plain in ((0, "", True, True), (1, "D", True, True), (1, "L", True, True),
                                           (1, "X", True, False), (3, "DLD", True, True), (3, "DXL", True, False),
                                           (3, "XXX", True, False), (36, "DL" * 18, True, True), (2, "D", False, False),
                                           (2, "DLD", False, False), (0, "D", False, False), (1, "", False, False),
                                           (1, "d", False, False), (1, "x", False, False), (2, "D ", False, False),
                                           (2, "DA", False, False), (2, "\nD", False, False), (1, ("D",), False, False),
                                           (2, ("D", "L"), False, False), (1, ["X"], False, False), (0, (), False, False),
                                           (0, None, False, False), (0, [], False, False), (1, True, False, False),
                                           (GREAT, "D", False, False)):
            self.same((is_laying(size, thing), is_plain(size, thing)), (laying, plain))
            self.same((is_laying(size=size, thing=thing), is_plain(size=size, thing=thing)), (laying, plain))
        for thing in ODD:
            wanted = isinstance(thing, str) and thing == "DL"
            self.same((is_laying(2, thing), is_plain(2, thing)), (wanted, wanted))
        self.same((is_plain(1, "X"), is_plain(2, "XD"), is_plain(2, "LX")), (False, False, False))

    def test_joined_end(self):
        for pattern in [*FEW, *ONES]:
            for laying in reference.layings(pattern)[::5]:
                for end in range(len(pattern)):
                    other = joined_end(pattern, laying, end)
                    self.same(other, reference.joined(pattern, laying, end))
                    self.same(joined_end(pattern, laying, other), end)
                    self.same(letter_for(pattern, end // 4, end, other), laying[end // 4])
        self.same([joined_end(THREE, "DX", end) for end in range(8)], [3, 2, 1, 0, 6, 7, 4, 5])

    def test_letter_for(self):
        for pattern in SOME[::2]:
            for crossing in range(len(pattern) // 4):
                for one in range(4 * crossing, 4 * crossing + 4):
                    for other in range(4 * crossing, 4 * crossing + 4):
                        if one == other:
                            continue
                        letter = letter_for(pattern, crossing, one, other)
                        laying = letter * (len(pattern) // 4)
                        self.same(reference.joined(pattern, laying, one), other)
                        self.same(letter, letter_for(pattern, crossing, other, one))

    def test_refusals(self):
        bad = (*NO_INTEGERS, -1, GREAT)
        self.refuses_in_order(joined_end, ("pattern", "laying", "end"), (THREE, "DL", 7), ((), NO_LAYINGS, (*bad, 8)))
        self.refuses_in_order(letter_for, ("pattern", "crossing", "one", "other"), (THREE, 1, 4, 6),
                              ((), (*bad, 2), (*bad, 0, 3, 8), (*bad, 0, 3, 8, 4)))
        self.not_usable("other", letter_for, TWO, 0, 2, 2)
        self.not_usable("one", letter_for, THREE, 0, 4, 5)
        self.not_usable("laying", joined_end, TWO, "DL", 0)


if __name__ == "__main__":
    unittest.main()
