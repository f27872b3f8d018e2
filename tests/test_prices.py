import random
import unittest

import reference
import reference_choices
from samples import FOUR, GREAT, MANY, NO_INTEGERS, ODD, THREE, TWO, StrictCase
from test_layingkinds import NO_LAYINGS
from threadsround.prices import is_prices, price_of

# The prices of THREE's two crossings, and what is near to such.
GOOD_PRICES = ((1, 0), (5, 2))
NO_PRICES = (*ODD, *NO_INTEGERS, list(GOOD_PRICES), ((1, 0),), (*GOOD_PRICES, (0, 0)), ((1, 0), [5, 2]), ([1, 0], (5, 2)),
             ((1, True), (5, 2)), ((1, 0), (False, 2)), ((1, 0), (5, -1)), ((-1, 0), (5, 2)), ((1, 0), (5,)), ((1, 0), (5, 2, 0)),
             ((1, 0), 5), (1, 0, 5, 2), ((1, 0), None), ((1, "0"), (5, 2)), ((1, 0), "52"), ((1, 0), (5, (2,))), "1052")


def drawn_prices(dice, crossings):
    """Prices with many alike ones, with noughts, or great ones."""
    most = dice.choice((0, 1, 2, 3, 9, 999999))
    return tuple((dice.randrange(most + 1), dice.randrange(most + 1)) for _ in range(crossings))


class PricesTest(StrictCase):
    def test_is_prices(self):
        for thing in NO_PRICES:
            self.same(is_prices(2, thing), False)
        self.same(is_prices(2, GOOD_PRICES), True)
        self.same((is_prices(0, ()), is_prices(0, ((0, 0),)), is_prices(1, ()), is_prices(1, ((0, 0),))), (True, False, False, True))
        self.same((is_prices(thing=((GREAT, 0),), size=1), is_prices(1, ((0, -GREAT),)), is_prices(0, [])), (True, False, False))
        self.same(is_prices(5000, ((999999, 0),) * 5000), True)

    def test_price_of(self):
        self.same([price_of(THREE, GOOD_PRICES, laying) for laying in ("DD", "DL", "LD", "LL")], [6, 3, 5, 2])
        dice = random.Random(77)
        for pattern in MANY[::3]:
            prices = drawn_prices(dice, len(pattern) // 4)
            for laying in reference.layings(pattern, "DL")[::3]:
                self.same(price_of(pattern, prices, laying), reference_choices.price(prices, laying))
        self.same(price_of(laying="D", prices=((7, 3),), pattern=TWO), 7)

    def test_refusals(self):
        self.refuses_in_order(price_of, ("pattern", "prices", "laying"), (THREE, GOOD_PRICES, "DL"),
                              ((), NO_PRICES, (*NO_LAYINGS, "DX", "XX", "XL")))
        self.not_usable("prices", price_of, FOUR, GOOD_PRICES, "DL")
        self.not_usable("laying", price_of, FOUR, ((0, 0),) * 3, "DLX")


if __name__ == "__main__":
    unittest.main()
