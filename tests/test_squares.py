import unittest

import reference
import reference_rows
from samples import FOUR, GROWN, LEAF, MANY, ONES, THREE, TWO, StrictCase
from test_ringrows import STRANDS
from test_roundcounts import NO_COUNTS
from threadsround.onecounts import one_count
from threadsround.squares import square_told


class SquaresTest(StrictCase):
    def test_examples(self):
        self.same((square_told(THREE, 3), square_told(THREE, 6), square_told(FOUR, 3), square_told(FOUR, 6)),
                  ((1, 4), (5, 8), (3, 5), (36, 15)))

    def test_beside_one_count(self):
        kinds = set()
        for pattern in [*MANY[::3], *ONES, *STRANDS, *GROWN, TWO, THREE, FOUR, LEAF]:
            row, first = reference_rows.ring_numbers(pattern), reference_rows.trees(pattern)
            odd_cut = reference.cut(pattern) % 2 == 1
            for sectors in (1, 2, 3, 4, 5, 6, 7, 8, 35, 36):
                kinds.add((odd_cut, sectors % 2))
                factor = row[0] if odd_cut else sectors * first
                if sectors % 2 == 0:
                    factor *= reference_rows.value_at(row if odd_cut else row[1:], 4)
                told = square_told(pattern, sectors)
                self.same(told[0], int(factor))
                self.assertTrue(type(told[1]) is int and told[1] > 0)
                self.same(told[0] * told[1] ** 2, one_count(pattern, sectors))
        self.assertEqual(len(kinds), 4)

    def test_roots_that_are_known(self):
        self.same([square_told(TWO, sectors) for sectors in (1, 2, 9, 36)], [(1, 1), (2, 1), (9, 1), (36, 1)])
        self.same([square_told(LEAF, sectors) for sectors in (1, 2, 36)], [(1, 1)] * 3)
        self.same(square_told(sectors=2, pattern=FOUR), (12, 1))

    def test_refusals(self):
        self.refuses_in_order(square_told, ("pattern", "sectors"), (FOUR, 3), ((), NO_COUNTS))


if __name__ == "__main__":
    unittest.main()
