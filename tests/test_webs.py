import unittest

import reference_rows
from samples import FAR, FEW, GREAT, LEAF, MANY, ODD, THREE, TWO, StrictCase
from threadsround.namings import moved_on, renamed, spun
from threadsround.webs import dark_web, is_web, light_web

GOOD = (((1,), (), ()), ((0,), (0,), ()), ((0, 2), (0,), ((0, 1, 0), (1, 1, 1))), ((3, 7, GREAT), (0, 2), ((0, 0, -GREAT),)),
        ((0, 1), (0, 1), ()), ((0, 1), (), ((1, 0, 5),) * 12), ((5, 6, 7), (), ()))
WRONG = ((), ((1,),), ((1,), ()), ((1,), (), (), ()), [(1,), (), ()], ((), (), ()), ((2, 1), (), ()), ((1, 1), (), ()),
         ((-1,), (), ()), ((True,), (), ()), ((False, 1), (), ()), ((1.0,), (), ()), (("1",), (), ()), ([1], (), ()), (1, (), ()),
         ((1,), (1,), ()), ((1,), (-1,), ()), ((1, 2), (1, 0), ()), ((1, 2), (0, 0), ()), ((1, 2), (True,), ()),
         ((1, 2), (False,), ()), ((1, 2), [0], ()), ((1, 2), 0, ()), ((1, 2), (2,), ()), ((1,), None, ()), ((1,), (), []),
         ((1,), (), ((0, 0, 1), [0, 0, 1])), ((1,), (), ((0, 0),)), ((1,), (), ((0, 0, 1, 1),)), ((1,), (), ((0, 1, 1),)),
         ((1,), (), ((1, 0, 1),)), ((1,), (), ((-1, 0, 1),)), ((1,), (), ((0, -1, 1),)), ((1,), (), ((0, 0, True),)),
         ((1,), (), ((False, 0, 1),)), ((1,), (), ((0, False, 1),)), ((1,), (), ((0, 0, "1"),)), ((1,), (), ((0, 0, None),)),
         ((1,), (), (None,)), ((1,), (), (0, 0, 1)), ((1,), (), None), (None, (), ()), ((1,), (), (((0, 0, 1),),)),
         ((1, 2), (), ((0, 2, 0),)), ((1,), (), ((0, 0, 1.0),)))


class WebsTest(StrictCase):
    def test_examples(self):
        self.same(dark_web(TWO), ((1,), (), ((0, 0, 1),)))
        self.same(dark_web(THREE), ((0, 2), (0,), ((0, 1, 0), (1, 1, 1))))
        self.same(light_web(THREE), ((1, 3), (1,), ((0, 0, 1), (0, 1, -1))))
        self.same(light_web(LEAF), ((1,), (0,), ((0, 0, 1),)))
        self.same(is_web(((1,), (1,), ())), False)

    def check(self, pattern):
        for function, colour in ((dark_web, "dark"), (light_web, "light")):
            web = function(pattern)
            self.same(web, reference_rows.web(pattern, colour))
            self.same(is_web(web), True)

    def test_beside_the_definition(self):
        for pattern in MANY:
            self.check(pattern)
        self.same((dark_web(pattern=TWO), light_web(pattern=LEAF)), (dark_web(TWO), light_web(LEAF)))

    def test_corners_named_anew(self):
        for pattern in FEW:
            crossings = len(pattern) // 4
            for quarters in range(4):
                named = spun(renamed(pattern, tuple(range(crossings))[::-1]), 0, quarters)
                self.check(named)
                self.check(moved_on(named, crossings - 1, quarters - 7))

    def test_far_sectors(self):
        shifts = [tie[2] for pattern in FAR for tie in dark_web(pattern)[2] + light_web(pattern)[2]]
        self.assertGreater(max(shifts), 10 ** 5)

    def test_is_web(self):
        for thing in GOOD:
            self.assertTrue(reference_rows.is_web(thing))
            self.same(is_web(thing), True)
        for thing in (*WRONG, *ODD):
            self.assertFalse(reference_rows.is_web(thing), thing)
            self.same(is_web(thing), False)
        self.same(is_web(thing=GOOD[0]), True)

    def test_rings_of_ties(self):
        """A ring of ties that comes to no place twice and to no firm one sums up to -1, 0 or 1."""
        for pattern in MANY[::2]:
            for web in (dark_web(pattern), light_web(pattern)):
                places, firm, ties = web
                for start in range(len(places)):
                    if start not in firm:
                        self.go_on(ties, firm, [start], [], 0)

    def go_on(self, ties, firm, path, used, total):
        for k, (one, other, shift) in enumerate(ties):
            for here, there, by in ((one, other, shift), (other, one, -shift)):
                if here == path[-1] and k not in used and there not in firm:
                    if there == path[0]:
                        self.assertIn(total + by, (-1, 0, 1))
                    elif there not in path:
                        self.go_on(ties, firm, path + [there], used + [k], total + by)


if __name__ == "__main__":
    unittest.main()
