import unittest
from fractions import Fraction

import reference
import reference_loops
import reference_rows
from samples import FOUR, MANY, ONES, THREE, StrictCase
from test_ringrows import STRANDS
from threadsround.means import likely_loops, mean_loops


class MeansTest(StrictCase):
    def test_examples(self):
        self.same((mean_loops(FOUR), mean_loops(THREE)), ((8, 3), (2, 1)))
        self.same((likely_loops(FOUR), likely_loops(THREE)), ((2,), (1, 3)))

    def test_beside_all_layings(self):
        two = 0
        for pattern in [*MANY, *ONES, *STRANDS]:
            counts = [len(windings) for _, windings in reference_loops.all_windings(pattern, "DL") if 0 not in windings]
            self.same(mean_loops(pattern), reference_rows.pair(Fraction(sum(counts), len(counts))))
            most = max(counts.count(loops) for loops in counts)
            likely = tuple(loops for loops in sorted(set(counts)) if counts.count(loops) == most)
            self.same(likely_loops(pattern), likely)
            self.assertTrue(len(likely) == 1 or likely == (likely[0], likely[0] + 2))
            two += len(likely) == 2
        self.assertGreater(two, 3)

    def test_drawings(self):
        # Of the drawing of 6 the row is (320, 1), of the one of 4 sectors (0, 192, 1).
        self.same((mean_loops(reference.drawing(THREE, 6)), likely_loops(reference.drawing(THREE, 6))), ((323, 321), (1,)))
        self.same((mean_loops(pattern=reference.drawing(FOUR, 4)), likely_loops(pattern=FOUR)), ((388, 193), (2,)))


if __name__ == "__main__":
    unittest.main()
