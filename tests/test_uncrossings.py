import unittest

import reference
import reference_loops
from samples import MANY, THREE, TWO, StrictCase
from test_layingkinds import NO_LAYINGS
from threadsround.uncrossings import uncrossed, x_count


def letter_told(ends, directions, crossing):
    """The letter by which each joined end comes or leaves unlike its partner."""
    good = []
    for letter in "DL":
        laying = letter * (len(ends) // 4)
        its = [(end, reference.joined(ends, laying, end)) for end in range(4 * crossing, 4 * crossing + 4)]
        if all(directions[one] == -directions[other] for one, other in its):
            good.append(letter)
    assert len(good) == 1
    return good[0]


class UncrossingsTest(StrictCase):
    def test_examples(self):
        self.same(uncrossed(THREE, "DX"), "DD")

    def test_all_layings(self):
        for pattern in MANY:
            for laying in reference.layings(pattern)[::2]:
                directions = reference_loops.directed(pattern, laying)
                wanted = "".join(letter_told(pattern, directions, c) if letter == "X" else letter
                                 for c, letter in enumerate(laying))
                self.same(uncrossed(pattern, laying), wanted)

    def test_numbers_of_loops(self):
        for pattern in MANY[::2]:
            for laying in reference.layings(pattern)[1::3]:
                loops = len(reference.loops(pattern, laying))
                windings = reference.windings(pattern, laying)
                plain = len(reference.loops(pattern, uncrossed(pattern, laying)))
                most = loops + laying.count("X")
                self.assertEqual(plain % 2, most % 2)
                self.assertTrue(sum(windings) <= plain <= most)

    def test_x_count(self):
        for letters, many in (("", 0), ("D", 0), ("L", 0), ("X", 1), ("XX", 2), ("DLXXLDX", 3), ("X" * 36, 36),
                              ("DL" * 2000, 0), ("XD" * 1000, 1000)):
            self.same(x_count(letters), many)
            self.same(x_count(laying=letters), many)
        for bad in (True, None, 0, 1, "x", "DLx", "D X", " ", "X\n", "A", "0", ("X",), ["X"], (), [], (("X",),)):
            self.not_usable("laying", x_count, bad)
            self.not_usable("laying", x_count, laying=bad)

    def test_refusals(self):
        self.refuses_in_order(uncrossed, ("pattern", "laying"), (THREE, "XL"), ((), NO_LAYINGS))
        self.same((uncrossed(TWO, "X"), uncrossed(THREE, "XX"), uncrossed(THREE, "DL")), ("D", "LD", "DL"))


if __name__ == "__main__":
    unittest.main()
