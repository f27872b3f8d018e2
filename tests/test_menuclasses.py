import unittest

import reference
from samples import FOUR, GREAT, LEAF, MANY, NO_INTEGERS, ODD, THREE, TWO, StrictCase
from test_alikes import NO_PATTERNS
from test_makings import NO_WINDINGS
from test_timesround import NO_TIMES
from threadsround.errors import InvalidPaper, NotLayable
from threadsround.layingclasses import Laying
from threadsround.makings import laying_with
from threadsround.menuclasses import Menu
from threadsround.menupapers import lets_menu, menu_paper
from threadsround.menus import lay_threads, menu_of
from threadsround.patternclasses import Pattern
from threadsround.timesround import lay_times

NO_NUMBERS = (*NO_INTEGERS, -1, -GREAT)


class MenuTest(StrictCase):
    def test_examples(self):
        menu = Menu(THREE, 3)
        self.same((menu.cut_told, len(menu), 2 in menu, True in menu, menu.lay_times(((1, 3),))), (3, 3, True, False, "LD"))

    def test_what_it_tells(self):
        for pattern in MANY[::3]:
            for sectors in (0, 1, 2, 3, 12, 35):
                menu = Menu(pattern, sectors)
                pairs = menu_of(pattern, sectors)
                self.same((menu.cut_told, menu.sectors_told), (reference.cut(pattern), sectors))
                self.same((len(menu), list(menu), tuple(menu)), (len(pairs), list(pairs), pairs))
                for many in range(-1, 8):
                    self.same(many in menu, many in [pair[0] for pair in pairs])

    def test_in_with_any_value(self):
        menu = Menu(FOUR, 3)
        for thing in (True, False, None, 0, -1, 5, GREAT, "1", (1, 1), (1,), [1], 1.0, ((1, 1),), "", (), menu, TWO):
            self.same(thing in menu, False)
        self.same([many in menu for many in (1, 2, 3, 4)], [True] * 4)
        self.same([many in Menu(FOUR, 0) for many in (1, 2, 3, 4)], [False, True, False, True])

    def test_methods(self):
        for pattern, sectors in ((THREE, 3), (FOUR, 1), (FOUR, 9), (TWO, 5), (LEAF, 7)):
            menu = Menu(pattern, sectors)
            for many in range(1, reference.cut(pattern) + 1):
                self.same(menu.lay(many), lay_threads(pattern, sectors, many))
                self.same(menu.lay(many=many), menu.lay(many))
                paper = menu.why(many=many)
                self.same(paper, menu_paper(pattern, sectors, many))
                self.same(menu.judge(many, paper), lets_menu(pattern, sectors, many, paper))
            for windings in ((reference.cut(pattern),), (1,) * reference.cut(pattern)):
                self.same(menu.lay_windings(windings), laying_with(pattern, windings))
                self.same(menu.lay_windings(windings=windings), laying_with(pattern, windings))
            times = ((1, reference.cut(pattern)),)
            self.same(menu.lay_times(times), lay_times(pattern, sectors, times))
            self.same(menu.lay_times(times=times), lay_times(pattern, sectors, times))
        self.same(Menu(THREE, 4).judge(thing=("unlike", (0, 3, 7)), many=2), False)
        self.same(Menu(sectors=4, pattern=THREE).why(2)[0], "unlike")

    def test_what_they_raise(self):
        menu = Menu(THREE, 4)
        for many, word in ((2, "unlike"), (4, "many")):
            self.raises(NotLayable, {"word": word, "at": many}, menu.lay, many)
        self.raises(NotLayable, {"word": "many", "at": 4}, menu.lay_windings, (4,))
        self.raises(NotLayable, {"word": "unlike", "at": 2}, menu.lay_windings, (2,))
        self.raises(NotLayable, {"word": "blocks", "at": 2}, Menu(FOUR, 2).lay_times, ((2, 1), (1, 2))[::-1])
        self.raises(InvalidPaper, {"word": "shape", "at": -1}, menu.judge, 2, None)
        self.raises(InvalidPaper, {"word": "like", "at": 3}, menu.judge, 3, ("unlike", (0, 3, 7)))

    def test_refusals(self):
        menu = Menu(THREE, 4)
        for bad in (*NO_NUMBERS, 0):
            for method in (menu.lay, menu.why):
                self.not_usable("many", method, bad)
                self.not_usable("many", method, many=bad)
            self.not_usable("many", menu.judge, bad, None)
            self.not_usable("many", menu.judge, thing=None, many=bad)
        for bad in (*NO_WINDINGS, (1, 0), (0,)):
            self.not_usable("windings", menu.lay_windings, bad)
            self.not_usable("windings", menu.lay_windings, windings=bad)
        for bad in NO_TIMES:
            self.not_usable("times", menu.lay_times, bad)
            self.not_usable("times", menu.lay_times, times=bad)
            # For the band the sectors are refused, ahead of the times.
            self.not_usable("sectors", Menu(THREE, 0).lay_times, bad)
        self.not_usable("sectors", Menu(THREE, 0).lay_times, ((1, 3),))
        for bad in NO_NUMBERS:
            self.not_usable("sectors", menu.with_sectors, bad)
            self.not_usable("sectors", menu.with_sectors, sectors=bad)
            self.not_usable("sectors", Menu, THREE, bad)
            self.not_usable("sectors", Menu, sectors=bad, pattern=THREE)
        for bad in (*NO_PATTERNS, Pattern(THREE), menu):
            self.not_usable("pattern", Menu, bad, None)
            self.not_usable("pattern", Menu, sectors=None, pattern=bad)

    def test_it_stays_as_it_was(self):
        menu = Menu(FOUR, 3)
        before = repr((menu.cut_told, menu.sectors_told, list(menu)))
        other = menu.with_sectors(0)
        self.assertIs(type(other), Menu)
        self.same((other.sectors_told, list(other)), (0, [(2, 0), (4, 0)]))
        self.same(menu.with_sectors(sectors=2) == Menu(FOUR, 2), True)
        menu.lay(2)
        menu.lay_times(((1, 4),))
        self.assertRaises(NotLayable, menu.lay, 9)
        self.assertEqual(repr((menu.cut_told, menu.sectors_told, list(menu))), before)
        for name in ("cut_told", "sectors_told"):
            self.assertRaises(AttributeError, setattr, menu, name, 1)

    def test_equality(self):
        menu = Menu(THREE, 3)
        self.same((menu == Menu(THREE, 3), menu != Menu(THREE, 3)), (True, False))
        self.same((menu == Menu(THREE, 5), menu != Menu(THREE, 5)), (False, True))
        # The menus are alike, the patterns are not.
        self.same((list(Menu(TWO, 2)) == list(Menu(reference.drawing(TWO, 2), 2)),
                   Menu(TWO, 2) == Menu(reference.drawing(TWO, 2), 2)), (True, False))
        for thing in (*ODD, THREE, 3, (THREE, 3), list(menu), tuple(menu), Pattern(THREE), Laying(THREE, "DL")):
            self.same((menu == thing, thing == menu), (False, False))


if __name__ == "__main__":
    unittest.main()
