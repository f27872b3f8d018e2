import unittest

import reference
import reference_loops
from samples import FEW, FOUR, GREAT, LEAF, MANY, ODD, THREE, StrictCase
from threadsround.cutpapers import cut_paper, lets_cut
from threadsround.layingclasses import Laying

NO_SHAPES = (*ODD, (), ("cut",), ("cut", (0, 4, 7)), ("cut", (0, 4, 7), "LD", 0), ["cut", (0, 4, 7), "LD"],
             ("Cut", (0, 4, 7), "LD"), (None, (0, 4, 7), "LD"), ((0, 4, 7), "LD", "cut"), "cut", (("cut", (0, 4, 7), "LD"),),
             (("cut",), (0, 4, 7), "LD"), (True, (0, 4, 7), "LD"), ("laid", (0, 4, 7), "LD"))


class CutPapersTest(StrictCase):
    def test_examples(self):
        self.same(lets_cut(THREE, ("cut", (0, 4, 7), "LD")), 3)

    def test_papers_are_accepted(self):
        for pattern in MANY:
            paper = cut_paper(pattern)
            self.assertEqual([type(paper), len(paper), paper[0]], [tuple, 3, "cut"])
            self.same(lets_cut(pattern, paper), reference.cut(pattern))
        great = reference.drawing(FOUR, 12)
        self.same(lets_cut(thing=cut_paper(pattern=great), pattern=great), 4)

    def test_all_ways_and_layings(self):
        for pattern in FEW:
            cut = reference.cut(pattern)
            ways = reference_loops.ways(pattern, cut)[:3] + reference_loops.ways(pattern, cut + 2)[:3]
            for laying, windings in reference_loops.all_windings(pattern, "DL"):
                going_round = len([winding for winding in windings if winding])
                for way in ways:
                    paper = ("cut", way, laying)
                    if len(way) == going_round:
                        # What is shown is true.
                        self.assertEqual(going_round, cut)
                        self.same(lets_cut(pattern, paper), cut)
                    else:
                        self.invalid("fewer", going_round, lets_cut, pattern, paper)

    def test_each_word_in_the_sequence_told(self):
        for bad in NO_SHAPES:
            self.invalid("shape", -1, lets_cut, THREE, bad)
        good_way, good_laying = (0, 4, 7), "LD"
        for bad in (*ODD, (), [0, 4, 7], (0, 4), (0, 3), (False, 4, 7), (0, 4, 7, 7), (0, 4, GREAT), "047"):
            self.invalid("way", 1, lets_cut, THREE, ("cut", bad, good_laying))
            self.invalid("way", 1, lets_cut, THREE, ("cut", bad, None))
        for bad in (*[thing for thing in ODD if thing != "DL"], "XD", "LX", "XX", "", "L", "LDL", "ld", ("L", "D"), ["L", "D"],
                    Laying(THREE, "LD")):
            self.invalid("laying", 2, lets_cut, THREE, ("cut", good_way, bad))
            self.invalid("laying", 2, lets_cut, THREE, ("cut", (0, 1, 0, 4, 7), bad))
        for laying, many in (("DD", 1), ("LL", 1), ("DL", 1)):
            self.invalid("fewer", many, lets_cut, THREE, ("cut", good_way, laying))
        self.invalid("fewer", 3, lets_cut, THREE, ("cut", (0, 1, 0, 4, 7), "LD"))
        self.invalid("fewer", 1, lets_cut, LEAF, ("cut", (0, 1, 0), "L"))

    def test_a_paper_of_another_pattern(self):
        self.invalid("way", 1, lets_cut, LEAF, ("cut", (0, 4, 7), "LD"))
        self.invalid("laying", 2, lets_cut, LEAF, ("cut", reference_loops.ways(LEAF, 1)[0], "LD"))


if __name__ == "__main__":
    unittest.main()
