import unittest

import reference
import reference_loops
from samples import FEW, FOUR, GREAT, LEAF, MANY, NO_INTEGERS, ODD, THREE, TWO, StrictCase
from test_menus import round_ones
from threadsround.layingclasses import Laying
from threadsround.menupapers import lets_menu, menu_paper

SECTORS = (0, 1, 2, 3, 4, 6, 9, 12, 13, 36)
NO_SHAPES = (*ODD, (), ("laid",), ("many",), ("laid", "LD", 0), ["laid", "LD"], ("Laid", "LD"), (None, "LD"), ("LD", "laid"),
             ("cut", (0, 4, 7)), "laid", (("laid",), "LD"), ("odd", (0, 4, 7)), (True, "LD"), (("laid", "LD"),), ("", "LD"))


class MenuPapersTest(StrictCase):
    def test_examples(self):
        self.same((lets_menu(THREE, 3, 2, ("laid", "XD")), lets_menu(THREE, 4, 2, ("unlike", (0, 3, 7)))), (True, False))

    def test_papers_are_accepted(self):
        for pattern in MANY:
            cut = reference.cut(pattern)
            for sectors in SECTORS:
                for many in range(1, cut + 4):
                    paper = menu_paper(pattern, sectors, many)
                    can = many <= cut and ((many - cut) % 2 == 0 or sectors % 2 == 1)
                    word = "laid" if can else "many" if many > cut else "unlike"
                    self.assertEqual([type(paper), len(paper), paper[0]], [tuple, 2, word])
                    self.same(lets_menu(pattern, sectors, many, paper), can)

    def test_great_ones(self):
        great = reference.drawing(FOUR, 12)
        for sectors, many in ((GREAT, 3), (0, 2), (36, 3), (35, GREAT), (0, GREAT)):
            paper = menu_paper(many=many, sectors=sectors, pattern=great)
            self.same(lets_menu(thing=paper, many=many, sectors=sectors, pattern=great), paper[0] == "laid")

    def test_laid_papers_of_all_layings(self):
        for pattern in FEW[::2] + [THREE, FOUR]:
            for laying, windings in reference_loops.all_windings(pattern):
                for sectors in (0, 1, 2, 3, 4):
                    for many in (1, 2, 3):
                        paper = ("laid", laying)
                        made = round_ones(windings, sectors)
                        if made is None:
                            self.invalid("small", windings.count(0), lets_menu, pattern, sectors, many, paper)
                        elif made != many:
                            self.invalid("threads", made, lets_menu, pattern, sectors, many, paper)
                        else:
                            self.same(lets_menu(pattern, sectors, many, paper), True)

    def test_ways_shown(self):
        for pattern in FEW[::2] + [THREE, FOUR]:
            cut = reference.cut(pattern)
            for length in (cut, cut + 2):
                for way in reference_loops.ways(pattern, length)[:2]:
                    for sectors in (0, 1, 2, 3, 4):
                        for many in range(1, cut + 5):
                            self.check_way(pattern, sectors, many, way)

    def check_way(self, pattern, sectors, many, way):
        if len(way) < many:
            self.same(lets_menu(pattern, sectors, many, ("many", way)), False)
        else:
            self.invalid("long", len(way), lets_menu, pattern, sectors, many, ("many", way))
        if sectors % 2:
            self.invalid("odd", -1, lets_menu, pattern, sectors, many, ("unlike", way))
        elif (len(way) - many) % 2 == 0:
            self.invalid("like", len(way), lets_menu, pattern, sectors, many, ("unlike", way))
        else:
            self.same(lets_menu(pattern, sectors, many, ("unlike", way)), False)

    def test_each_word_in_the_sequence_told(self):
        for bad in NO_SHAPES:
            self.invalid("shape", -1, lets_menu, THREE, 3, 2, bad)
        for bad in (*[thing for thing in ODD if thing != "DL"], "", "D", "DLD", "xd", ("X", "D"), ["X", "D"],
                    Laying(THREE, "XD")):
            self.invalid("laying", 1, lets_menu, THREE, 3, 2, ("laid", bad))
        for bad in (*ODD, (), (0, 4), [0, 4, 7], (False, 4, 7), (0, 4, 7, 7), "047", (0, GREAT, 7), "XD"):
            for sectors, many in ((3, 2), (4, 2), (0, 4), (3, 3)):
                self.invalid("way", 1, lets_menu, THREE, sectors, many, ("many", bad))
                self.invalid("way", 1, lets_menu, THREE, sectors, many, ("unlike", bad))
        # Small loops come ahead of another number of threads, odd sectors ahead of a way that is like.
        self.invalid("small", 1, lets_menu, THREE, 3, 2, ("laid", "DD"))
        self.invalid("small", 1, lets_menu, TWO, 3, 2, ("laid", "L"))
        self.invalid("threads", 1, lets_menu, THREE, 2, 2, ("laid", "XX"))
        self.invalid("threads", 3, lets_menu, THREE, 0, 2, ("laid", "XX"))
        self.invalid("odd", -1, lets_menu, THREE, 3, 3, ("unlike", (0, 4, 7)))
        self.invalid("like", 5, lets_menu, THREE, 0, 3, ("unlike", (0, 1, 0, 4, 7)))
        # A way of another pattern.
        self.invalid("way", 1, lets_menu, LEAF, 2, 2, ("many", (0, 4, 7)))

    def test_refusals(self):
        no_numbers = (*NO_INTEGERS, -1, -GREAT)
        self.refuses_in_order(menu_paper, ("pattern", "sectors", "many"), (THREE, 0, 2), ((), no_numbers, (*no_numbers, 0)))
        self.refuses_in_order(lets_menu, ("pattern", "sectors", "many", "thing"), (THREE, 3, 2, ("laid", "XD")),
                              ((), no_numbers, (*no_numbers, 0), ()))
        self.not_usable("many", lets_menu, THREE, 3, 0, None)


if __name__ == "__main__":
    unittest.main()
