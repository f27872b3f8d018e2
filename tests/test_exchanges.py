import random
import unittest

import reference_choices
from reference_choices import with_letter
from samples import FOUR, GREAT, GROWN, LEAF, MANY, NO_INTEGERS, ODD, ONES, THREE, TWO, StrictCase
from test_cheapest import PRICED, PRICES
from test_layingkinds import NO_LAYINGS
from test_manners import MANNERS, NO_MANNERS
from test_prices import GOOD_PRICES, NO_PRICES, drawn_prices
from threadsround.exchanges import better_exchange, exchange_way, exchanged, exchanges_of

NOT_OF_THREE = (*NO_LAYINGS, "DD", "LL", "XX", "DX")


class ExchangesTest(StrictCase):
    def test_examples(self):
        self.same(exchanges_of(FOUR, "all", "DLD"), ((0, 1), (2, 1)))
        self.same(exchange_way(FOUR, "few", "DDL", "LDD"), ((0, 2),))

    def test_exchanged(self):
        self.same((exchanged("DL", 0, 1), exchanged("LDLLD", 4, 0), exchanged(into=2, out=1, laying="LDL")), ("LD", "DDLLL", "LLD"))
        self.same(exchanged("D" * 1999 + "L", 7, 1999), "D" * 7 + "L" + "D" * 1992)
        good = ("DLDL", 2, 3)
        no_layings = (*[thing for thing in (*ODD, *NO_INTEGERS) if thing not in ("D", "DL")], "", "DXL", "X", "dl", "D L", "DL\n",
                      ("D", "L"), ["D", "L"])
        names = ("laying", "out", "into")
        self.refuses_in_order(exchanged, names, good, (no_layings, (*NO_INTEGERS, -1, 1, 3, 4, GREAT), (*NO_INTEGERS, -1, 0, 2, 4, GREAT)))
        # No crossing with L, or none with D, is there.
        self.not_usable("out", exchanged, "LL", 0, 1)
        self.not_usable("into", exchanged, "DD", 0, 1)
        self.not_usable("out", exchanged, "DL", True, 1)
        self.not_usable("into", exchanged, "DL", 0, True)

    def test_exchanges_of_beside_all_tried(self):
        for pattern in PRICED:
            for manner in MANNERS:
                for laying in reference_choices.layings(pattern, manner)[::3]:
                    self.same(exchanges_of(pattern, manner, laying), reference_choices.exchanges(pattern, manner, laying))
        self.same(exchanges_of(laying="LDL", manner="one", pattern=FOUR), ())

    def test_better_exchange(self):
        dice = random.Random(81)
        for pattern in [*MANY[::5], *ONES[::4], *GROWN[::2], TWO, THREE, FOUR, LEAF]:
            for manner in MANNERS:
                prices = drawn_prices(dice, len(pattern) // 4)
                cheapest = reference_choices.cheapest(pattern, manner, prices)
                for laying in reference_choices.layings(pattern, manner)[:20]:
                    better = better_exchange(pattern, manner, prices, laying)
                    if laying in cheapest:
                        self.same(better, None)
                    else:
                        self.assertTrue(type(better) is tuple and better in reference_choices.exchanges(pattern, manner, laying))
                        other = with_letter(with_letter(laying, better[0], "L"), better[1], "D")
                        self.assertLess(reference_choices.price(prices, other), reference_choices.price(prices, laying))
        self.same(better_exchange(laying="DLD", prices=PRICES, manner="all", pattern=FOUR), None)

    def test_exchange_way(self):
        steps = 0
        for pattern in [*MANY[::5], *ONES[::4], *GROWN[::2], TWO, THREE, FOUR, LEAF]:
            for manner in MANNERS:
                layings = reference_choices.layings(pattern, manner)
                for one in layings[::len(layings) // 6 + 1]:
                    for other in layings[::len(layings) // 5 + 1]:
                        way = exchange_way(pattern, manner, one, other)
                        steps += len(way)
                        self.check_way(layings, one, other, way)
        self.assertGreater(steps, 300)
        self.same(exchange_way(other="DLD", one="DLD", manner="all", pattern=FOUR), ())

    def check_way(self, layings, one, other, way):
        self.assertIs(type(way), tuple)
        self.assertEqual(len(way), len([1 for mine, its in zip(one, other) if mine == "D" and its == "L"]))
        now = one
        for out, into in way:
            self.assertEqual((type(out), type(into), now[out], now[into]), (int, int, "D", "L"))
            now = with_letter(with_letter(now, out, "L"), into, "D")
            self.assertIn(now, layings)
        self.assertEqual(now, other)

    def test_refusals(self):
        self.refuses_in_order(exchanges_of, ("pattern", "manner", "laying"), (THREE, "all", "LD"), ((), NO_MANNERS, NOT_OF_THREE))
        self.refuses_in_order(better_exchange, ("pattern", "manner", "prices", "laying"), (THREE, "all", GOOD_PRICES, "LD"),
                              ((), NO_MANNERS, NO_PRICES, NOT_OF_THREE))
        self.refuses_in_order(exchange_way, ("pattern", "manner", "one", "other"), (THREE, "all", "LD", "DL"),
                              ((), NO_MANNERS, NOT_OF_THREE, NOT_OF_THREE))
        # Of another manner.
        self.not_usable("laying", exchanges_of, THREE, "few", "LD")
        self.not_usable("laying", better_exchange, FOUR, "few", PRICES, "DLD")
        self.not_usable("one", exchange_way, FOUR, "few", "DLD", "DLD")
        self.not_usable("other", exchange_way, FOUR, "few", "DDL", "DLD")


if __name__ == "__main__":
    unittest.main()
