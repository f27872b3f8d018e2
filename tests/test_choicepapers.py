import random
import unittest

import reference_choices
from reference_choices import with_letter
from samples import FOUR, GREAT, GROWN, LEAF, MANY, NO_INTEGERS, ODD, ONES, THREE, TWO, StrictCase
from test_cheapest import PRICES
from test_exchanges import NOT_OF_THREE
from test_manners import MANNERS, NO_MANNERS
from test_prices import GOOD_PRICES, NO_PRICES, drawn_prices
from threadsround.choicepapers import choice_paper, lets_choice
from threadsround.patternclasses import Pattern

NO_SHAPES = (*ODD, (), "cheapest", ["cheapest"], ("cheapest", 1), ("Cheapest",), (("cheapest",),), ("better",), ("better", 0),
             ("better", 0, 2, 0), ["better", 0, 2], ("cheapest", 0, 2), ("dearer",), (0, "better", 2), (True,), ("better", (0, 2)),
             ("cheapestbetter",), (None, 0, 2), ("cheapest", "cheapest", "cheapest"), (Pattern(TWO),))


class ChoicePapersTest(StrictCase):
    def test_examples(self):
        paper = choice_paper(FOUR, "all", PRICES, "DDL")
        self.assertIn(paper, [("better", 1, 2)])
        self.invalid("price", 1, lets_choice, FOUR, "all", PRICES, "DDL", ("better", 0, 2))

    def test_papers_are_accepted(self):
        dice = random.Random(83)
        words = {"cheapest": 0, "better": 0}
        for pattern in [*MANY[::4], *ONES[::4], *GROWN[::3], TWO, THREE, FOUR, LEAF]:
            for manner in MANNERS:
                prices = drawn_prices(dice, len(pattern) // 4)
                cheapest = reference_choices.cheapest(pattern, manner, prices)
                for laying in reference_choices.layings(pattern, manner)[::2]:
                    paper = choice_paper(pattern, manner, prices, laying)
                    words[paper[0]] += 1
                    self.assertEqual([type(paper), len(paper), paper[0]],
                                     [tuple, 1, "cheapest"] if laying in cheapest else [tuple, 3, "better"])
                    self.same(lets_choice(pattern, manner, prices, laying, paper), laying in cheapest)
                    if laying not in cheapest:
                        more = reference_choices.price(prices, laying) - reference_choices.least(pattern, manner, prices)
                        self.invalid("dearer", more, lets_choice, pattern, manner, prices, laying, ("cheapest",))
        self.assertGreater(min(words.values()), 50)
        self.same(lets_choice(thing=("cheapest",), laying="DLD", prices=PRICES, manner="all", pattern=FOUR), True)
        self.same(choice_paper(laying="DLD", prices=PRICES, manner="all", pattern=FOUR), ("cheapest",))

    def test_all_exchanges_shown(self):
        dice = random.Random(84)
        found = set()
        for pattern in [*MANY[::9], *ONES[::9], *GROWN[::6], THREE, FOUR]:
            for manner in MANNERS:
                prices = drawn_prices(dice, len(pattern) // 4)
                for laying in reference_choices.layings(pattern, manner)[:20:3]:
                    for out in range(-1, len(laying) + 1):
                        for into in range(-1, len(laying) + 1):
                            found.add(self.check_exchange(pattern, manner, prices, laying, out, into))
        self.assertEqual(found, {"out", "into", "manner", "price", "cheaper", "as cheap"})

    def check_exchange(self, pattern, manner, prices, laying, out, into):
        """Judge the paper by trying, and name what it came to."""
        call = (lets_choice, pattern, manner, prices, laying, ("better", out, into))
        if not 0 <= out < len(laying) or laying[out] != "D":
            self.invalid("out", 1, *call)
            return "out"
        if not 0 <= into < len(laying) or laying[into] != "L":
            self.invalid("into", 2, *call)
            return "into"
        other = with_letter(with_letter(laying, out, "L"), into, "D")
        if other not in reference_choices.layings(pattern, manner):
            self.invalid("manner", -1, *call)
            return "manner"
        more = reference_choices.price(prices, other) - reference_choices.price(prices, laying)
        if more >= 0:
            self.invalid("price", more, *call)
            return "price" if more else "as cheap"
        self.same(lets_choice(*call[1:]), False)
        return "cheaper"

    def test_each_word_in_the_sequence_told(self):
        for bad in NO_SHAPES:
            self.invalid("shape", -1, lets_choice, FOUR, "all", PRICES, "DDL", bad)
        self.invalid("dearer", 3, lets_choice, FOUR, "all", PRICES, "DDL", ("cheapest",))
        for bad in (*NO_INTEGERS, -1, 2, 3, GREAT, Pattern(TWO)):
            self.invalid("out", 1, lets_choice, FOUR, "all", PRICES, "DDL", ("better", bad, None))
        for bad in (*NO_INTEGERS, -1, 0, 1, 3, GREAT, Pattern(TWO)):
            self.invalid("into", 2, lets_choice, FOUR, "all", PRICES, "DDL", ("better", 1, bad))
        self.invalid("manner", -1, lets_choice, FOUR, "few", PRICES, "DDL", ("better", 1, 2))
        self.invalid("price", 0, lets_choice, FOUR, "all", ((1, 1),) * 3, "DDL", ("better", 1, 2))
        self.invalid("price", 4, lets_choice, FOUR, "all", ((1, 0), (1, 0), (5, 0)), "DDL", ("better", 1, 2))
        # True stands for no crossing.
        self.invalid("out", 1, lets_choice, FOUR, "all", PRICES, "DDL", ("better", True, 2))
        self.invalid("into", 2, lets_choice, FOUR, "all", ((1, 0), (0, 0), (9, 0)), "DLD", ("better", 2, True))

    def test_refusals(self):
        names = ("pattern", "manner", "prices", "laying", "thing")
        self.refuses_in_order(choice_paper, names[:4], (THREE, "all", GOOD_PRICES, "LD"), ((), NO_MANNERS, NO_PRICES, NOT_OF_THREE))
        self.refuses_in_order(lets_choice, names, (THREE, "all", GOOD_PRICES, "DL", ("cheapest",)),
                              ((), NO_MANNERS, NO_PRICES, NOT_OF_THREE, ()))
        self.not_usable("laying", lets_choice, FOUR, "few", PRICES, "DLD", None)
        self.not_usable("laying", choice_paper, FOUR, "few", PRICES, "DLD")


if __name__ == "__main__":
    unittest.main()
