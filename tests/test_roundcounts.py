import unittest

import reference
import reference_rows
from samples import FOUR, GREAT, LEAF, MANY, NO_INTEGERS, ONES, THREE, TWO, StrictCase
from test_ringrows import STRANDS
from threadsround.ringrows import ring_row
from threadsround.roundcounts import round_count, round_row

NO_COUNTS = (*NO_INTEGERS, 0, -1, -GREAT)


def small_drawings(most, patterns):
    """(pattern, sectors, drawing) for drawings of at most so many crossings."""
    for pattern in patterns:
        for sectors in range(1, 7):
            if sectors * len(pattern) <= 4 * most:
                yield pattern, sectors, reference.drawing(pattern, sectors)


class RoundCountsTest(StrictCase):
    def test_examples(self):
        self.same((round_row(THREE, 3), round_row(FOUR, 2)), ((16, 1), (0, 12, 1)))
        self.same((round_count(THREE, 3, 1), round_count(THREE, 3, 2), round_count(FOUR, 2, 2)), (16, 0, 12))

    def test_beside_all_counted_layings(self):
        for pattern, sectors, whole in small_drawings(9, [*MANY[::4], FOUR, LEAF, TWO, THREE, *ONES[::5]]):
            row = reference_rows.ring_numbers(whole)
            cut = reference.cut(pattern)
            self.same(round_row(pattern, sectors), row)
            self.same(round_row(pattern, sectors), ring_row(whole))
            for many in range(1, cut + 5):
                wanted = row[many // 2] if many <= cut and (cut - many) % 2 == 0 else 0
                self.same(round_count(pattern, sectors, many), wanted)
                self.assertEqual(wanted > 0, many <= cut and (cut - many) % 2 == 0)

    def test_greater_drawings(self):
        for pattern in (TWO, THREE, FOUR, LEAF):
            for sectors in (7, 12, 17):
                whole = reference.drawing(pattern, sectors)
                if len(whole) <= 144:
                    self.same(round_row(pattern, sectors), ring_row(whole))
        for pattern in STRANDS:
            for a, b in ((2, 3), (4, 9), (5, 7)):
                self.same(round_row(pattern, a * b), reference_rows.turned(round_row(pattern, a), b))

    def test_many_above_the_cut_and_unlike_it(self):
        for sectors in (1, 2, 36):
            for many in (2, 4, 5, 7, 36, 37, GREAT):
                self.same(round_count(THREE, sectors, many), 0)
            for many in (1, 3, 5, 6, GREAT + 1):
                self.same(round_count(FOUR, sectors, many), 0)
        self.same(round_count(many=3, sectors=36, pattern=THREE), 1)
        self.same(round_row(sectors=36, pattern=LEAF), (1,))

    def test_drawings_of_drawings(self):
        for pattern in (TWO, THREE, FOUR, LEAF):
            for a, b in ((2, 2), (3, 2), (2, 5)):
                self.same(round_row(reference.drawing(pattern, a), b), round_row(pattern, a * b))

    def test_refusals(self):
        self.refuses_in_order(round_row, ("pattern", "sectors"), (THREE, 3), ((), NO_COUNTS))
        self.refuses_in_order(round_count, ("pattern", "sectors", "many"), (THREE, 3, 1), ((), NO_COUNTS, NO_COUNTS))


if __name__ == "__main__":
    unittest.main()
