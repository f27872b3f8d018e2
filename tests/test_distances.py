import unittest

import reference
import reference_loops
from samples import LEAF, MANY, NAMED, THREE, StrictCase
from threadsround.distances import cut_of, distances_of


class DistancesTest(StrictCase):
    def test_examples(self):
        self.same((distances_of(THREE), cut_of(THREE)), ((0, 1, 2, 3), 3))
        self.same((distances_of(LEAF), cut_of(LEAF)), ((0, 1, 2), 1))

    def test_beside_a_search(self):
        for pattern in MANY:
            middle = reference.totals(pattern).index(1)
            self.same(distances_of(pattern), tuple(reference.distances(pattern, middle)))
            self.same(cut_of(pattern), reference.cut(pattern))
            for one, other in reference_loops.sides(pattern):
                far = distances_of(pattern=pattern)
                self.assertEqual(abs(far[one] - far[other]), 1)

    def test_strands(self):
        for width in range(2, 13):
            up = tuple(range(1, width))
            for word in (up, up[::-1], up[::2] + up[1::2], up[1::2] + up[::2], up + up[:12 - len(up)]):
                pattern = reference_loops.strands(width, word)
                self.same(cut_of(pattern), width)
                self.same(distances_of(pattern)[reference.totals(pattern).index(-1)], width)
        self.same(cut_of(pattern=reference_loops.strands(37, tuple(range(1, 37)))), 37)

    def test_drawings(self):
        for pattern in [*NAMED, *MANY[::9]]:
            for sectors in (2, 3, 5):
                self.same(cut_of(reference.drawing(pattern, sectors)), reference.cut(pattern))
        self.same(cut_of(reference.drawing(THREE, 18)), 3)


if __name__ == "__main__":
    unittest.main()
