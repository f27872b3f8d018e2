import inspect
import unittest
from itertools import islice

import reference
import reference_choices
from samples import FOUR, LEAF, THREE, TWO, StrictCase
from test_manners import CHOSEN, MANNERS, NO_MANNERS
from threadsround.lists import layings_of


class ListsTest(StrictCase):
    def test_examples(self):
        self.same(list(layings_of(FOUR, "all")), ["DDL", "DLD", "LDD"])

    def test_ascending_and_whole(self):
        for pattern in CHOSEN:
            for manner in MANNERS:
                layings = list(layings_of(pattern, manner))
                self.same(tuple(layings), reference_choices.layings(pattern, manner))
                self.assertEqual(layings, sorted(set(layings)))

    def test_one_by_one(self):
        self.assertTrue(inspect.isgenerator(layings_of(FOUR, "all")))
        first, second = layings_of(FOUR, "all"), layings_of(manner="few", pattern=FOUR)
        got = [next(first), next(second), next(first), next(second), next(first)]
        self.same(got, ["DDL", "DDL", "DLD", "LDD", "LDD"])
        self.same((next(first, None), next(second, None)), (None, None))
        # The first ones of a great drawing are there without all the others.
        great = reference.drawing(FOUR, 8)
        for laying in islice(layings_of(great, "all"), 5):
            self.assertEqual([len(laying), set(laying)], [24, {"D", "L"}])
        self.assertEqual(len(list(layings_of(reference.drawing(LEAF, 12), "one"))), 1)
        self.same(len(list(layings_of(reference.drawing(TWO, 12), "one"))), 12)

    def test_refusals_when_the_first_one_is_asked_for(self):
        for bad in NO_MANNERS:
            for refused in (layings_of(THREE, bad), layings_of(manner=bad, pattern=THREE)):
                self.not_usable("manner", lambda generator: next(generator), refused)
                # It is over then.
                self.same(list(refused), [])


if __name__ == "__main__":
    unittest.main()
