import random
import unittest

import reference
import reference_choices
from samples import FOUR, GROWN, LEAF, MANY, ONES, THREE, TWO, StrictCase
from test_layingkinds import NO_LAYINGS
from test_manners import MANNERS, NO_MANNERS
from test_prices import GOOD_PRICES, NO_PRICES, drawn_prices
from test_ringrows import STRANDS
from threadsround.cheapest import cheapest_laying, is_cheapest, least_price

PRICES = ((1, 0), (5, 0), (2, 0))
PRICED = [*MANY[::3], *ONES[::2], *STRANDS, *GROWN, TWO, THREE, FOUR, LEAF]


class CheapestTest(StrictCase):
    def test_examples(self):
        self.same((cheapest_laying(FOUR, "all", PRICES), cheapest_laying(FOUR, "few", PRICES), least_price(FOUR, "one", PRICES)),
                  ("DLD", "DDL", 5))

    def test_beside_all_layings(self):
        dice = random.Random(78)
        several = 0
        for pattern in PRICED:
            for manner in MANNERS:
                for _ in range(6):
                    prices = drawn_prices(dice, len(pattern) // 4)
                    cheapest = reference_choices.cheapest(pattern, manner, prices)
                    several += len(cheapest) > 1
                    laying = cheapest_laying(pattern, manner, prices)
                    self.assertTrue(type(laying) is str and laying in cheapest)
                    self.same(least_price(pattern, manner, prices), reference_choices.least(pattern, manner, prices))
        self.assertGreater(several, 200)

    def test_is_cheapest_for_all_layings(self):
        dice = random.Random(79)
        for pattern in [pattern for pattern in PRICED if len(pattern) <= 16]:
            for manner in MANNERS:
                prices = drawn_prices(dice, len(pattern) // 4)
                cheapest = reference_choices.cheapest(pattern, manner, prices)
                for laying in reference.layings(pattern):
                    self.same(is_cheapest(pattern, manner, prices, laying), laying in cheapest)

    def test_prices_that_grow_together(self):
        dice = random.Random(80)
        for pattern in PRICED[::4]:
            for manner in MANNERS:
                prices = drawn_prices(dice, len(pattern) // 4)
                for crossing in range(len(pattern) // 4):
                    dark, light = prices[crossing]
                    grown = prices[:crossing] + ((dark + 4, light + 4),) + prices[crossing + 1:]
                    self.same(least_price(pattern, manner, grown), least_price(pattern, manner, prices) + 4)
                    laying = cheapest_laying(pattern, manner, prices)
                    self.same(is_cheapest(pattern, manner, grown, laying), True)

    def test_not_of_the_manner(self):
        free = ((0, 0),) * 3
        self.same([is_cheapest(FOUR, "few", free, laying) for laying in ("DLD", "DDL", "DXL", "LLL", "LDD")],
                  [False, True, False, False, True])
        # Cheaper than any of the manner, but not of it.
        self.same(is_cheapest(laying="LLL", prices=PRICES, manner="all", pattern=FOUR), False)
        self.same((cheapest_laying(prices=PRICES, manner="one", pattern=FOUR), least_price(prices=PRICES, manner="all", pattern=FOUR)),
                  ("LDL", 3))

    def test_refusals(self):
        for function in (cheapest_laying, least_price):
            self.refuses_in_order(function, ("pattern", "manner", "prices"), (THREE, "few", GOOD_PRICES),
                                  ((), NO_MANNERS, NO_PRICES))
        self.refuses_in_order(is_cheapest, ("pattern", "manner", "prices", "laying"), (THREE, "few", GOOD_PRICES, "DX"),
                              ((), NO_MANNERS, NO_PRICES, NO_LAYINGS))


if __name__ == "__main__":
    unittest.main()
