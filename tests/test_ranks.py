import unittest

from samples import FOUR, GREAT, GROWN, LEAF, MANY, NO_INTEGERS, ONES, THREE, TWO, StrictCase
from test_layingkinds import NO_LAYINGS
from test_manners import MANNERS, NO_MANNERS
from test_ringrows import STRANDS
from threadsround.lists import layings_of
from threadsround.ranks import drawn_by, laying_at, rank_of


class RanksTest(StrictCase):
    def test_examples(self):
        self.same((rank_of(FOUR, "all", "LDD"), drawn_by(FOUR, "all", 7)), (2, "DLD"))

    def test_they_undo_each_other(self):
        for pattern in [*MANY[::4], *ONES[::3], *STRANDS, *GROWN[::4], TWO, THREE, FOUR, LEAF]:
            for manner in MANNERS:
                layings = list(layings_of(pattern, manner))
                for place, laying in list(enumerate(layings))[::len(layings) // 5 + 1]:
                    self.same(rank_of(pattern, manner, laying), place)
                    self.same(laying_at(pattern, manner, place), laying)
                for die in (0, 1, len(layings) - 1, len(layings), 2 * len(layings) + 1, 10 ** 29 + 7, GREAT):
                    self.same(drawn_by(pattern, manner, die), layings[die % len(layings)])
        self.same(rank_of(laying="LDD", manner="few", pattern=FOUR), 1)
        self.same(laying_at(place=1, manner="few", pattern=FOUR), "LDD")
        self.same(drawn_by(die=10 ** 29, manner="few", pattern=FOUR), "DDL")

    def test_refusals(self):
        self.refuses_in_order(rank_of, ("pattern", "manner", "laying"), (THREE, "all", "LD"),
                              ((), NO_MANNERS, (*NO_LAYINGS, "DD", "LL", "XX", "LX")))
        self.not_usable("laying", rank_of, THREE, "one", "LD")
        self.not_usable("laying", rank_of, FOUR, "one", "DDL")
        self.refuses_in_order(laying_at, ("pattern", "manner", "place"), (FOUR, "all", 2),
                              ((), NO_MANNERS, (*NO_INTEGERS, -1, 3, 4, GREAT)))
        self.not_usable("place", laying_at, FOUR, "few", 2)
        self.not_usable("place", laying_at, FOUR, "one", 1)
        self.refuses_in_order(drawn_by, ("pattern", "manner", "die"), (FOUR, "all", 2),
                              ((), NO_MANNERS, (*NO_INTEGERS, -1, -GREAT)))


if __name__ == "__main__":
    unittest.main()
