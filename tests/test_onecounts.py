import unittest

import reference
import reference_choices
import reference_rows
from samples import FOUR, GREAT, LEAF, MANY, NO_INTEGERS, ONES, THREE, TWO, StrictCase
from test_ringrows import STRANDS
from test_roundcounts import NO_COUNTS, small_drawings
from threadsround.onecounts import one_count, one_counts
from threadsround.trees import tree_count


class OneCountsTest(StrictCase):
    def test_examples(self):
        self.same((one_counts(THREE, 6), one_counts(FOUR, 4)), ((1, 5, 16, 45, 121, 320), (1, 12, 75, 384)))
        self.same((one_count(TWO, 7), one_count(LEAF, 7)), (7, 1))

    def test_beside_all_layings_with_one_loop(self):
        odd = 0
        for pattern, sectors, whole in small_drawings(9, [*MANY[::4], FOUR, LEAF, TWO, THREE, *ONES[::5]]):
            odd += reference.cut(pattern) % 2
            self.same(one_count(pattern, sectors), len(reference_choices.layings(whole, "one")))
        self.assertGreater(odd, 20)

    def test_beside_the_trees_of_greater_drawings(self):
        for pattern in [*STRANDS, *MANY[::9]]:
            for sectors in (1, 2, 3, 4, 5, 9, 12):
                if sectors * len(pattern) <= 144:
                    self.same(one_count(pattern, sectors), tree_count(reference.drawing(pattern, sectors)))

    def test_one_counts(self):
        for pattern in (TWO, THREE, FOUR, LEAF, STRANDS[1], STRANDS[2]):
            counts = one_counts(pattern, 36)
            self.same(counts, tuple(one_count(pattern, sectors) for sectors in range(1, 37)))
            for most in (1, 2, 7):
                self.same(one_counts(most=most, pattern=pattern), counts[:most])
            for sectors in (1, 2, 6, 35, 36):
                self.same(counts[sectors - 1], reference_choices.five(*self.told(pattern, sectors))[0])
        self.same(one_counts(TWO, 36), tuple(range(1, 37)))
        self.same(one_counts(LEAF, 36), (1,) * 36)
        # Every second Lucas number, less 2: 2 less than the power sums of the golden ratio's square.
        last, now, wanted = 2, 3, []
        for _ in range(36):
            wanted.append(now - 2)
            last, now = now, 3 * now - last
        self.same(one_counts(THREE, 36), tuple(wanted))

    def told(self, pattern, sectors):
        """The ring row of the drawing, and its trees, by the definition of turning."""
        row = reference_rows.ring_numbers(pattern)
        turned = reference_rows.turned(row, sectors)
        if row[0]:
            return turned, turned[0]
        less = reference_rows.turned(row[1:], sectors)
        return turned, sectors * reference_rows.trees(pattern) * less[0] // row[1]

    def test_drawings_of_drawings(self):
        for pattern in (TWO, THREE, FOUR, LEAF, STRANDS[0]):
            for a, b in ((2, 2), (3, 2), (2, 5), (4, 9)):
                if a * len(pattern) <= 144:
                    self.same(one_count(reference.drawing(pattern, a), b), one_count(pattern, a * b))

    def test_refusals(self):
        self.refuses_in_order(one_count, ("pattern", "sectors"), (FOUR, 3), ((), NO_COUNTS))
        self.refuses_in_order(one_counts, ("pattern", "most"), (FOUR, 3), ((), (*NO_INTEGERS, 0, -1, -GREAT)))


if __name__ == "__main__":
    unittest.main()
