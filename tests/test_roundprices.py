import random
import unittest

import reference
import reference_choices
from samples import FOUR, GROWN, LEAF, MANY, ONES, THREE, TWO, StrictCase
from test_cheapest import PRICES
from test_manners import MANNERS, NO_MANNERS
from test_prices import GOOD_PRICES, NO_PRICES, drawn_prices
from test_ringrows import STRANDS
from test_roundcounts import NO_COUNTS, small_drawings
from threadsround.cheapest import least_price
from threadsround.ringrows import ring_row
from threadsround.roots import is_rising, roots_above
from threadsround.roundcounts import round_row
from threadsround.roundprices import cheapest_row, drawn_cheapest, keeping_price, round_cheapest, round_price

SMALL = [*MANY[::6], *GROWN[::5], TWO, THREE, FOUR, LEAF, *ONES[::7]]


class RoundPricesTest(StrictCase):
    def test_examples(self):
        self.same((round_price(FOUR, 4, "few", PRICES), keeping_price(FOUR, 4, "few", PRICES), keeping_price(FOUR, 4, "one", PRICES)),
                  (15, 9, None))
        self.same(round_cheapest(FOUR, 2, ((1, 1), (1, 1), (3, 3))), (0, 12, 1))

    def test_beside_all_layings_of_drawings(self):
        dice = random.Random(85)
        kinds = set()
        for pattern, sectors, whole in small_drawings(8, SMALL):
            for manner in MANNERS:
                for _ in range(3):
                    prices = drawn_prices(dice, len(pattern) // 4)
                    least = reference_choices.least(whole, manner, prices * sectors)
                    self.same(round_price(pattern, sectors, manner, prices), least)
                    layings = reference_choices.layings(whole, manner)
                    alike = [laying for laying in layings if laying[:len(pattern) // 4] * sectors == laying]
                    keeping = min([reference_choices.price(prices * sectors, laying) - least for laying in alike], default=None)
                    kinds.add((manner, None if keeping is None else keeping > 0))
                    self.same(keeping_price(pattern, sectors, manner, prices), keeping)
                    laying = drawn_cheapest(pattern, sectors, manner, prices)
                    self.assertIn(laying, reference_choices.cheapest(whole, manner, prices * sectors))
        self.assertEqual(kinds, {("all", False), ("few", False), ("few", True), ("one", False), ("one", True), ("one", None)})

    def test_rows_beside_all_layings_of_drawings(self):
        dice = random.Random(86)
        for pattern, sectors, whole in small_drawings(8, SMALL):
            for _ in range(3):
                prices = drawn_prices(dice, len(pattern) // 4)
                self.same(cheapest_row(pattern, prices), reference_choices.cheapest_row(pattern, prices))
                self.same(round_cheapest(pattern, sectors, prices), reference_choices.cheapest_row(whole, prices * sectors))

    def test_rows_have_real_roots_at_most_0(self):
        dice = random.Random(87)
        for pattern in [*SMALL, *STRANDS]:
            for _ in range(5):
                row = cheapest_row(pattern, drawn_prices(dice, len(pattern) // 4))
                degree = len(row) - 1
                self.same(is_rising(row), True)
                self.assertEqual([roots_above(row, (-10 ** 9, 1)), roots_above(row, (0, 1))], [degree, 0])

    def test_keeping_is_none_exactly_where_told(self):
        for pattern in [*SMALL, *STRANDS]:
            prices = ((1, 0),) * (len(pattern) // 4)
            for sectors in (1, 2, 3, 36):
                for manner in MANNERS:
                    none = manner == "one" and sectors > 1 and reference.cut(pattern) % 2 == 0
                    self.assertEqual(keeping_price(pattern, sectors, manner, prices) is None, none)

    def test_consequences(self):
        dice = random.Random(88)
        for pattern in [*SMALL, *STRANDS]:
            crossings = len(pattern) // 4
            prices = drawn_prices(dice, crossings)
            for manner in MANNERS:
                self.same((round_price(pattern, 1, manner, prices), keeping_price(pattern, 1, manner, prices)),
                          (least_price(pattern, manner, prices), 0))
            for sectors in (1, 2, 36):
                self.same(keeping_price(pattern, sectors, "all", prices), 0)
                alike = tuple((dark, dark) for dark, _ in prices)
                self.same(cheapest_row(pattern, alike), ring_row(pattern))
                self.same(round_cheapest(pattern, sectors, alike), round_row(pattern, sectors))

    def test_greater_drawings(self):
        dice = random.Random(89)
        for pattern in (TWO, THREE, FOUR, LEAF, MANY[40], STRANDS[0]):
            crossings = len(pattern) // 4
            for sectors in (2, 3, 24 // crossings):
                for manner in MANNERS:
                    prices = drawn_prices(dice, crossings)
                    laying = drawn_cheapest(pattern, sectors, manner, prices)
                    self.same(reference_choices.price(prices * sectors, laying), round_price(pattern, sectors, manner, prices))
                    windings = reference.windings(reference.drawing(pattern, sectors), laying)
                    self.assertNotIn("X", laying)
                    self.assertEqual(len(laying), crossings * sectors)
                    fewest = 2 - reference.cut(pattern) % 2
                    good = {"all": 0 not in windings, "few": windings == (1,) * fewest, "one": len(windings) == 1}
                    self.assertTrue(good[manner])
        self.same(round_price(prices=PRICES, manner="one", sectors=36, pattern=FOUR), 5 + 35 * 3)
        self.same(keeping_price(prices=PRICES, manner="few", sectors=36, pattern=FOUR), 35 * 3)

    def test_refusals(self):
        names = ("pattern", "sectors", "manner", "prices")
        for function in (round_price, keeping_price, drawn_cheapest):
            self.refuses_in_order(function, names, (THREE, 2, "few", GOOD_PRICES), ((), NO_COUNTS, NO_MANNERS, NO_PRICES))
        self.refuses_in_order(cheapest_row, ("pattern", "prices"), (THREE, GOOD_PRICES), ((), NO_PRICES))
        self.refuses_in_order(round_cheapest, ("pattern", "sectors", "prices"), (THREE, 2, GOOD_PRICES), ((), NO_COUNTS, NO_PRICES))


if __name__ == "__main__":
    unittest.main()
