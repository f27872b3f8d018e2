import unittest

import reference_rows
from samples import FAR, FOUR, FOURS, LEAF, MANY, ONES, THREE, THREES, TWO, TWOS, StrictCase, told_by
from test_alikes import NO_PATTERNS, disguised
from test_ringrows import STRANDS
from threadsround.mirrors import inside_out, mirrored
from threadsround.onecounts import one_counts
from threadsround.partings import parts_at, same_rounds

# Their u_m are 2 to the power of m, and 2 m: alike for one and for two sectors.
POWERS = told_by("6+0 5+0 4+0 7+1 2+0 1+0 0+0 3-1")
TWICE = told_by("4+0 9+0 6-1 5-1 0+0 3+1 2+1 8+0 7+0 1+0 11+0 10+0")


class PartingsTest(StrictCase):
    def test_examples(self):
        self.same((parts_at(THREE, FOUR), parts_at(TWO, LEAF), parts_at(FOUR, FOUR)), (2, 2, None))

    def test_beside_the_first_unlike_count(self):
        patterns = [*ONES[::5], *TWOS[::17], *THREES[::5], *FOURS[::7], TWICE, TWO, THREE, FOUR, POWERS, LEAF, *STRANDS]
        counts = [one_counts(pattern, 12) for pattern in patterns]
        told = [(reference_rows.ring_numbers(pattern), reference_rows.trees(pattern)) for pattern in patterns]
        found = set()
        for j, pattern in enumerate(patterns):
            for k, other in enumerate(patterns[::3]):
                unlike = [m for m in range(1, 13) if counts[j][m - 1] != counts[3 * k][m - 1]]
                wanted = min(unlike, default=None)
                found.add(wanted)
                self.same(parts_at(pattern, other), wanted)
                self.same(same_rounds(pattern, other), wanted is None)
                self.assertEqual(wanted is None, told[j] == told[3 * k])
        self.assertTrue({None, 1, 2} <= found <= {None, 1, 2, 3, 4, 5, 6}, found)
        self.same((parts_at(POWERS, TWICE), parts_at(TWICE, POWERS), same_rounds(POWERS, TWICE)), (3, 3, False))

    def test_unlike_patterns_with_the_same_counts(self):
        by_counts, pairs = {}, 0
        for pattern in [*THREES, *FOURS]:
            other = by_counts.setdefault(one_counts(pattern, 12), pattern)
            if other != pattern:
                pairs += 1
                self.same((parts_at(pattern, other), same_rounds(other, pattern)), (None, True))
        self.assertGreater(pairs, 20)

    def test_other_names_mirrored_and_inside_out(self):
        for pattern in [*MANY[::8], *FAR]:
            for other in (disguised(pattern, 1), mirrored(pattern), inside_out(pattern), mirrored(inside_out(pattern))):
                self.same((parts_at(pattern, other), parts_at(other, pattern), same_rounds(pattern, other)), (None, None, True))
        self.same(same_rounds(other=LEAF, pattern=TWO), False)

    def test_refusals(self):
        for function in (parts_at, same_rounds):
            self.refuses_in_order(function, ("pattern", "other"), (THREE, FOUR), ((), NO_PATTERNS))


if __name__ == "__main__":
    unittest.main()
