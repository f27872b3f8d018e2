import unittest

import reference
import reference_choices
import reference_loops
from samples import DRAWN, FOUR, GROWN, LEAF, MANY, NO_INTEGERS, ODD, ONES, THREE, TWO, StrictCase
from test_layingkinds import NO_LAYINGS
from test_ringrows import STRANDS
from threadsround.manners import is_manner, is_of, manner_count
from threadsround.patternclasses import Pattern

MANNERS = reference_choices.MANNERS
NO_MANNERS = (*NO_INTEGERS, 0, 1, "All", "ALL", " all", "all ", "al", "allfew", "none", "two", ("all",), ["one"],
              ("all", "few", "one"), "x" * 4000)
CHOSEN = [*MANY, *ONES, *STRANDS, *GROWN]


class MannersTest(StrictCase):
    def test_examples(self):
        self.same((manner_count(FOUR, "all"), manner_count(FOUR, "few"), manner_count(FOUR, "one")), (3, 2, 1))

    def test_is_manner(self):
        for thing in (*NO_MANNERS, *ODD, TWO, Pattern(TWO)):
            self.same(is_manner(thing), False)
        for manner in MANNERS:
            self.same((is_manner(manner), is_manner(thing=manner)), (True, True))

    def test_is_of_beside_all_layings(self):
        cuts = set()
        for pattern in CHOSEN:
            if len(pattern) <= 20:
                cuts.add(reference.cut(pattern))
                for laying, windings in reference_loops.all_windings(pattern):
                    plain = "X" not in laying
                    self.same(is_of(pattern, "one", laying), plain and len(windings) == 1)
                    self.same(is_of(pattern, "all", laying), plain and 0 not in windings)
                    fewest = 2 - reference.cut(pattern) % 2
                    self.same(is_of(pattern, "few", laying), plain and windings == (1,) * fewest)
        self.assertTrue(cuts >= {1, 2, 3, 4, 5, 6}, cuts)
        self.same([is_of(THREE, manner, laying) for manner in MANNERS for laying in ("XX", "DX", "XL")], [False] * 9)
        self.same(is_of(laying="LD", manner="all", pattern=THREE), True)

    def test_manner_count(self):
        for pattern in CHOSEN:
            for manner in MANNERS:
                many = manner_count(pattern, manner)
                self.assertGreaterEqual(many, 1)
                self.same(many, len(reference_choices.layings(pattern, manner)))
        self.same(manner_count(manner="one", pattern=LEAF), 1)

    def test_all_of_a_manner_have_as_many_d(self):
        for pattern in [*CHOSEN, *DRAWN]:
            for manner in MANNERS:
                self.assertEqual(len({laying.count("D") for laying in reference_choices.layings(pattern, manner)}), 1)

    def test_refusals(self):
        self.refuses_in_order(is_of, ("pattern", "manner", "laying"), (THREE, "few", "DX"), ((), NO_MANNERS, NO_LAYINGS))
        self.refuses_in_order(manner_count, ("pattern", "manner"), (THREE, "few"), ((), NO_MANNERS))


if __name__ == "__main__":
    unittest.main()
