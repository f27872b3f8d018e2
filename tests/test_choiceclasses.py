import unittest

from samples import FAR, FOUR, GREAT, LEAF, MANY, NO_INTEGERS, ODD, THREE, TWO, StrictCase
from test_alikes import NO_PATTERNS
from test_cheapest import PRICES
from test_exchanges import NOT_OF_THREE
from test_manners import MANNERS, NO_MANNERS
from test_prices import GOOD_PRICES, NO_PRICES
from test_roundcounts import NO_COUNTS
from threadsround.cheapest import cheapest_laying, least_price
from threadsround.choiceclasses import Choice
from threadsround.exchanges import better_exchange, exchange_way
from threadsround.lists import layings_of
from threadsround.manners import manner_count
from threadsround.patternclasses import Pattern
from threadsround.roundprices import keeping_price, round_price
from threadsround.spans import price_span

NO_PAIRS = (*[thing for thing in ODD if thing != (1, 0)], [1, 0], (1,), (1, 0, 0), (True, 0), (1, False), (-1, 0), (1, -1), ("1", "0"),
            "10", ((1, 0),), (None, 0))


class ChoiceTest(StrictCase):
    def test_examples(self):
        mine = Choice(FOUR, PRICES).repriced(1, (0, 0))
        self.same((mine.priced, mine.best("all"), mine.span("all", 0, laying=mine.best("all")), mine.for_all(4, "one")),
                  (((1, 0), (0, 0), (2, 0)), "DDL", (None, 2), 3))

    def test_each_method(self):
        for pattern in [*MANY[::9], TWO, THREE, FOUR, LEAF]:
            prices = tuple((7 * c % 5, c % 3) for c in range(len(pattern) // 4))
            choice = Choice(pattern, prices)
            self.same(choice.priced, prices)
            for manner in MANNERS:
                best = choice.best(manner)
                self.same(best, cheapest_laying(pattern, manner, prices))
                self.same((choice.best(manner=manner), choice.least(manner=manner), choice.ways_to(manner=manner)),
                          (best, least_price(pattern, manner, prices), manner_count(pattern, manner)))
                for laying in list(layings_of(pattern, manner))[::4]:
                    self.same(choice.better(manner, laying), better_exchange(pattern, manner, prices, laying))
                    self.same(choice.better(laying=laying, manner=manner), choice.better(manner, laying))
                    self.same(choice.lead(manner, laying, best), exchange_way(pattern, manner, laying, best))
                    self.same(choice.lead(other=best, one=laying, manner=manner), choice.lead(manner, laying, best))
                for crossing in range(len(pattern) // 4):
                    self.same(choice.span(manner, crossing, laying=best), price_span(pattern, manner, prices, best, crossing))
                self.same(choice.span(laying=best, crossing=0, manner=manner), choice.span(manner, 0, laying=best))
                for sectors in (1, 2, 36):
                    self.same(choice.for_all(sectors, manner), round_price(pattern, sectors, manner, prices))
                    self.same(choice.keeping(sectors, manner), keeping_price(pattern, sectors, manner, prices))
                    self.same(choice.for_all(manner=manner, sectors=sectors), choice.for_all(sectors, manner))
                    self.same(choice.keeping(manner=manner, sectors=sectors), choice.keeping(sectors, manner))
        self.assertRaises(TypeError, lambda: Choice(FOUR, PRICES).span("all", 0, "DLD"))

    def test_repriced(self):
        choice = Choice(FOUR, PRICES)
        other = choice.repriced(pair=(9, 8), crossing=2)
        self.assertIs(type(other), Choice)
        self.same((choice.priced, other.priced), (PRICES, ((1, 0), (5, 0), (9, 8))))
        self.same((choice.least("one"), other.repriced(0, (0, 0)).priced), (5, ((0, 0), (5, 0), (9, 8))))
        self.same((choice == Choice(FOUR, PRICES), other == choice, other.repriced(2, (2, 0)) == choice), (True, False, True))
        self.assertRaises(AttributeError, setattr, choice, "priced", ())

    def test_equality(self):
        choice = Choice(prices=PRICES, pattern=FOUR)
        self.same((choice == Choice(FOUR, PRICES), choice != Choice(FOUR, PRICES)), (True, False))
        self.same((Choice(TWO, ((1, 1),)) == Choice(LEAF, ((1, 1),)), Choice(TWO, ((1, 1),)) != Choice(TWO, ((1, 2),))), (False, True))
        # Each answers like the other, but the patterns are not the same.
        self.same((Choice(FAR[1], PRICES).best("few") == choice.best("few"), Choice(FAR[1], PRICES) == choice), (True, False))
        for thing in (*ODD, PRICES, FOUR, (FOUR, PRICES), Pattern(FOUR)):
            self.same((choice == thing, thing == choice), (False, False))

    def test_refusals(self):
        for bad in (*NO_PATTERNS, Pattern(THREE), Choice(THREE, GOOD_PRICES)):
            self.not_usable("pattern", Choice, bad, None)
            self.not_usable("pattern", Choice, prices=None, pattern=bad)
        for bad in NO_PRICES:
            self.not_usable("prices", Choice, THREE, bad)
            self.not_usable("prices", Choice, prices=bad, pattern=THREE)
        choice = Choice(THREE, GOOD_PRICES)
        for bad in NO_MANNERS:
            for method in (choice.best, choice.least, choice.ways_to):
                self.not_usable("manner", method, bad)
                self.not_usable("manner", method, manner=bad)
            self.not_usable("manner", choice.better, bad, None)
            self.not_usable("manner", choice.span, bad, None, laying=None)
            self.not_usable("manner", choice.lead, bad, None, None)
            self.not_usable("manner", choice.for_all, 1, bad)
            self.not_usable("manner", choice.keeping, manner=bad, sectors=1)
        for bad in NOT_OF_THREE:
            self.not_usable("laying", choice.better, "all", bad)
            self.not_usable("laying", choice.span, "all", 0, laying=bad)
            self.not_usable("one", choice.lead, "all", bad, None)
            self.not_usable("other", choice.lead, "all", "DL", bad)
        # LD costs more than DL.
        self.not_usable("laying", choice.span, "all", 0, laying="LD")
        for bad in (*NO_INTEGERS, -1, 2, GREAT):
            self.not_usable("crossing", choice.span, "all", bad, laying=None)
            self.not_usable("crossing", choice.repriced, bad, None)
            self.not_usable("crossing", choice.repriced, pair=None, crossing=bad)
        for bad in NO_COUNTS:
            for method in (choice.for_all, choice.keeping):
                self.not_usable("sectors", method, bad, None)
                self.not_usable("sectors", method, manner=None, sectors=bad)
        for bad in NO_PAIRS:
            self.not_usable("pair", choice.repriced, 0, bad)
            self.not_usable("pair", choice.repriced, pair=bad, crossing=0)
        self.same(choice.priced, GOOD_PRICES)


if __name__ == "__main__":
    unittest.main()
