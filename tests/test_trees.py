import random
import unittest

import reference
import reference_loops
import reference_rows
from samples import FOUR, MANY, ONES, THREE, TWO, StrictCase
from test_layingkinds import NO_LAYINGS
from test_ringrows import STRANDS
from test_tables import WEBS
from test_webs import GOOD
from threadsround.trees import is_tree, tree_count, web_trees
from threadsround.webs import dark_web, light_web


class TreesTest(StrictCase):
    def test_examples(self):
        self.same((tree_count(TWO), tree_count(FOUR)), (1, 1))
        self.same((is_tree(TWO, "L"), is_tree(TWO, "D"), is_tree(TWO, "X"), is_tree(THREE, "DL")), (True, False, False, True))
        self.same(web_trees(((0, 4), (), ((0, 1, 0), (1, 0, 3), (1, 1, 1)))), 2)

    def test_tree_count(self):
        for pattern in [*MANY, *ONES, *STRANDS]:
            many = reference_rows.trees(pattern)
            self.assertGreaterEqual(many, 1)
            self.same(tree_count(pattern), many)
            if reference.cut(pattern) % 2:
                self.assertEqual(many, reference_rows.ring_numbers(pattern)[0])
            for web in (dark_web(pattern), light_web(pattern)):
                self.same(web_trees(web), many)
        self.same(tree_count(pattern=reference.drawing(THREE, 6)), 320)
        self.same(tree_count(reference.drawing(FOUR, 4)), 384)

    def test_is_tree(self):
        for pattern in MANY:
            for laying, windings in reference_loops.all_windings(pattern):
                self.same(is_tree(pattern, laying), "X" not in laying and len(windings) == 1)
        self.same(is_tree(pattern=THREE, laying="XX"), False)

    def test_web_trees(self):
        for web in (*WEBS, *[web for web in GOOD if len(web[0]) < 5]):
            self.same(web_trees(web), reference_rows.web_trees(web))
        dice = random.Random(3)
        counts = []
        for _ in range(150):
            size = dice.randrange(1, 7)
            places = tuple(sorted(dice.sample(range(20), size)))
            firm = tuple(sorted(dice.sample(range(size), dice.randrange(size + 1))))
            ties = tuple((dice.randrange(size), dice.randrange(size), dice.randrange(-9, 10))
                         for _ in range(dice.randrange(11)))
            counts.append(web_trees((places, firm, ties)))
            self.same(counts[-1], reference_rows.web_trees((places, firm, ties)))
        self.assertGreater(len(set(counts)), 10)

    def test_places_alone_and_apart(self):
        self.same(web_trees(((5,), (), ())), 1)
        self.same(web_trees(((5,), (0,), ((0, 0, 1), (0, 0, 0)))), 1)
        self.same(web_trees(((1, 5), (), ())), 0)
        self.same(web_trees(((1, 5), (), ((0, 0, 1), (1, 1, 2)))), 0)
        self.same(web_trees(((1, 2, 3), (0,), ((0, 1, 1), (1, 0, 2)))), 0)
        self.same(web_trees(web=((1, 5), (0, 1), ((0, 1, 3),) * 12)), 12)
        self.same(web_trees((tuple(range(13)), (), tuple((k, k + 1, 0) for k in range(12)))), 1)

    def test_refusals(self):
        self.refuses_in_order(is_tree, ("pattern", "laying"), (THREE, "LX"), ((), NO_LAYINGS))


if __name__ == "__main__":
    unittest.main()
