import unittest

import reference
import reference_choices
from reference_choices import counted, lots, orders_keeping
from samples import FOUR, GREAT, GROWN, LEAF, MANY, NO_INTEGERS, ONES, THREE, TWO, StrictCase
from test_roundcounts import NO_COUNTS, small_drawings
from threadsround.onecounts import one_count
from threadsround.orbits import just_kept, kept_count, unlike_count, unlike_ones
from threadsround.roundcounts import round_count

SMALL = [*MANY[::5], *GROWN[::6], TWO, THREE, FOUR, LEAF, *ONES[::7]]


def divisors(many):
    return [order for order in range(1, many + 1) if many % order == 0]


class OrbitsTest(StrictCase):
    def test_examples(self):
        self.same((kept_count(THREE, 3, 3, 1), just_kept(THREE, 3, 1, 1), just_kept(THREE, 6, 2, 1)), (1, 15, 15))
        self.same((unlike_count(THREE, 3, 1), unlike_count(THREE, 3, 3), unlike_count(THREE, 6, 1)), (6, 1, 58))
        self.same((unlike_ones(THREE, 4), unlike_ones(FOUR, 2), unlike_ones(FOUR, 3)), (13, 6, 25))

    def test_beside_all_layings(self):
        for pattern, sectors, whole in small_drawings(8, SMALL):
            for many in range(1, reference.cut(pattern) + 3):
                those = [laying for laying, loops in counted(whole).items() if loops == many]
                orders = [orders_keeping(laying, sectors) for laying in those]
                for order in divisors(sectors):
                    self.same(kept_count(pattern, sectors, order, many), len([1 for kept in orders if order in kept]))
                    self.same(just_kept(pattern, sectors, order, many), len([1 for kept in orders if order == max(kept)]))
                self.same(unlike_count(pattern, sectors, many), lots(those, sectors))
            self.same(unlike_ones(pattern, sectors), lots(reference_choices.layings(whole, "one"), sectors))

    def test_twelve_crossings(self):
        for pattern, sectors in ((THREE, 6), (FOUR, 4), (TWO, 12), (TWO, 8)):
            whole = reference.drawing(pattern, sectors)
            for many in (1, 2, 3, 4):
                those = [laying for laying, loops in counted(whole).items() if loops == many]
                self.same(unlike_count(pattern, sectors, many), lots(those, sectors))
            self.same(unlike_ones(pattern, sectors), lots(reference_choices.layings(whole, "one"), sectors))

    def test_sums(self):
        for pattern in (TWO, THREE, FOUR, LEAF):
            for sectors in (1, 2, 12, 17, 30, 36):
                for many in (1, 2, 3, 4, 5):
                    just = {order: just_kept(pattern, sectors, order, many) for order in divisors(sectors)}
                    for order in just:
                        kept = kept_count(pattern, sectors, order, many)
                        self.same(kept, sum(just[more] for more in just if more % order == 0))
                        self.same(kept, round_count(pattern, sectors // order, many))
                        self.assertEqual(just[order] * order % sectors, 0)
                    self.same(unlike_count(pattern, sectors, many), sum(just[o] * o // sectors for o in just))
                ones = unlike_ones(pattern, sectors)
                if reference.cut(pattern) % 2:
                    self.same(ones, unlike_count(pattern, sectors, 1))
                else:
                    self.same(ones * sectors, one_count(pattern, sectors))

    def test_many_above_the_cut_and_unlike_it(self):
        for sectors in (1, 6, 36):
            for many in (2, 4, 5, 37, GREAT):
                for order in divisors(sectors):
                    self.same((kept_count(THREE, sectors, order, many), just_kept(THREE, sectors, order, many)), (0, 0))
                self.same(unlike_count(THREE, sectors, many), 0)
        self.same(kept_count(many=3, order=2, sectors=6, pattern=THREE), 1)
        self.same((unlike_count(many=1, sectors=1, pattern=LEAF), unlike_ones(sectors=36, pattern=LEAF)), (1, 1))

    def test_refusals(self):
        no_orders = (*NO_INTEGERS, 0, -1, -2, 4, 5, 12, GREAT)
        for function in (kept_count, just_kept):
            self.refuses_in_order(function, ("pattern", "sectors", "order", "many"), (THREE, 6, 2, 1),
                                  ((), NO_COUNTS, no_orders, NO_COUNTS))
        self.refuses_in_order(unlike_count, ("pattern", "sectors", "many"), (THREE, 6, 1), ((), NO_COUNTS, NO_COUNTS))
        self.refuses_in_order(unlike_ones, ("pattern", "sectors"), (THREE, 6), ((), NO_COUNTS))


if __name__ == "__main__":
    unittest.main()
