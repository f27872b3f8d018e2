import random
import unittest

import reference_choices
from samples import FOUR, GREAT, GROWN, LEAF, MANY, NO_INTEGERS, ONES, THREE, TWO, StrictCase
from test_cheapest import PRICES
from test_exchanges import NOT_OF_THREE
from test_manners import MANNERS, NO_MANNERS
from test_prices import GOOD_PRICES, NO_PRICES, drawn_prices
from threadsround.cheapest import is_cheapest
from threadsround.spans import price_span


def repriced(prices, crossing, difference):
    """The prices with D costing so much more than L at crossing."""
    return prices[:crossing] + ((max(difference, 0), max(-difference, 0)),) + prices[crossing + 1:]


class SpansTest(StrictCase):
    def test_examples(self):
        self.same((price_span(FOUR, "all", PRICES, "DLD", 1), price_span(FOUR, "all", PRICES, "DLD", 0)), ((2, None), (None, 5)))

    def test_beside_the_prices_changed(self):
        dice = random.Random(82)
        bounds = [0, 0, 0]
        for pattern in [*MANY[::6], *ONES[::5], *GROWN[::3], TWO, THREE, FOUR, LEAF]:
            for manner in MANNERS:
                prices = drawn_prices(dice, len(pattern) // 4)
                for laying in sorted(reference_choices.cheapest(pattern, manner, prices))[:3]:
                    for crossing in range(len(pattern) // 4):
                        span = price_span(pattern, manner, prices, laying, crossing)
                        self.assertEqual([type(span), len(span)], [tuple, 2])
                        bounds[0] += span[0] is not None
                        bounds[1] += span[1] is not None
                        bounds[2] += span == (None, None)
                        self.check_span(pattern, manner, prices, laying, crossing, span)
        self.assertGreater(min(bounds), 50)

    def check_span(self, pattern, manner, prices, laying, crossing, span):
        low, high = span
        tried = [-10 ** 7, 10 ** 7, 0, prices[crossing][0] - prices[crossing][1]]
        for bound in span:
            if bound is not None:
                self.assertIs(type(bound), int)
                tried += [bound - 1, bound, bound + 1]
        for difference in tried:
            changed = repriced(prices, crossing, difference)
            wanted = (low is None or low <= difference) and (high is None or difference <= high)
            self.same(is_cheapest(pattern, manner, changed, laying), wanted)
            self.assertEqual(laying in reference_choices.cheapest(pattern, manner, changed), wanted)

    def test_no_bounds(self):
        # FOUR has just one laying of the manner "one".
        for crossing in range(3):
            self.same(price_span(FOUR, "one", PRICES, "LDL", crossing), (None, None))
        self.same(price_span(crossing=0, laying="D", prices=((0, 9),), manner="all", pattern=TWO), (None, None))

    def test_refusals(self):
        # DL costs 3, LD 5.
        self.refuses_in_order(price_span, ("pattern", "manner", "prices", "laying", "crossing"), (THREE, "all", GOOD_PRICES, "DL", 1),
                              ((), NO_MANNERS, NO_PRICES, (*NOT_OF_THREE, "LD"), (*NO_INTEGERS, -1, 2, GREAT)))
        self.not_usable("laying", price_span, FOUR, "all", PRICES, "DDL", 0)
        self.not_usable("laying", price_span, FOUR, "few", PRICES, "DLD", 0)


if __name__ == "__main__":
    unittest.main()
