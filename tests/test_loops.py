import unittest

import reference
from samples import FEW, FOUR, GREAT, LEAF, NO_INTEGERS, ODD, ONES, SOME, THREE, TWO, StrictCase
from test_layingkinds import NO_LAYINGS
from threadsround.loops import is_walk, loop_at, loops_of, walk_total, windings_of


class LoopsTest(StrictCase):
    def test_examples(self):
        self.same(loops_of(THREE, "LX"), ((0,), (2, 6, 5)))
        self.same(windings_of(THREE, "LX"), (2, 1))

    def test_the_layings_of_three(self):
        self.same(loops_of(THREE, "DL"), ((0, 2, 7, 5),))
        self.same(loops_of(THREE, "LD"), ((0,), (2, 5), (6,)))
        self.same([windings_of(THREE, laying) for laying in ("DL", "LD", "DD", "LL", "XX")],
                  [(1,), (1, 1, 1), (1, 0), (1, 0), (3,)])
        self.same(loops_of(TWO, "X"), ((0, 3),))
        self.same((loops_of(LEAF, "D"), loops_of(LEAF, "L"), loops_of(LEAF, "X")), (((0, 2),), ((0,), (2,)), ((0, 3),)))

    def test_against_the_reference(self):
        for pattern in [*SOME[::2], *ONES]:
            for laying in reference.layings(pattern)[::4]:
                loops = loops_of(pattern, laying)
                self.same(loops, reference.loops(pattern, laying))
                self.same(windings_of(pattern, laying), reference.windings(pattern, laying))
                for loop in loops:
                    self.same(is_walk(pattern, loop), True)
                    self.same(walk_total(pattern, loop), sum(pattern[end][1] for end in loop))

    def test_loops_begin_with_their_least_end_and_pass_each_end_once(self):
        for pattern in SOME[::5]:
            for laying in reference.layings(pattern)[::3]:
                passed = []
                loops = loops_of(pattern, laying)
                self.same(loops, tuple(sorted(loops)))
                for loop in loops:
                    ends = [*loop, *(pattern[end][0] for end in loop)]
                    self.assertEqual(loop[0], min(ends))
                    passed += ends
                    for end in ends:
                        self.same(loop_at(pattern, laying, end), loop)
                self.assertEqual(sorted(passed), list(range(len(pattern))))

    def test_is_walk_for_loops_and_faces(self):
        for pattern in SOME[::3]:
            for face in reference.faces(pattern):
                self.same(is_walk(pattern, face), True)
                self.same(walk_total(pattern, face), sum(pattern[corner][1] for corner in face))

    def test_walks_back_and_joined(self):
        for walk in ((0, 1), (2, 4), (4, 2), (2, 4, 2, 4), (0, 2, 4), (0, 0, 0), (0, 1, 0), (0, 2, 6, 5), (1, 3, 4),
                     (2, 6, 7, 6, 5, 0, 0), (6,), (7, 6), (0,) * 400):
            self.same(is_walk(THREE, walk), True)
            self.same(walk_total(THREE, walk), sum(THREE[end][1] for end in walk))
        for walk in ((2,), (3,), (2, 2), (0, 2), (2, 0), (2, 4, 6), (0, 6), (2, 5, 6, 0), (6, 2), (4,), (0, 5)):
            self.same(is_walk(THREE, walk), False)
            self.not_usable("walk", walk_total, THREE, walk)

    def test_each_short_tuple_of_ends(self):
        for pattern in (TWO, THREE, *FEW[20:30]):
            size = len(pattern)
            for one in range(size):
                for other in range(size):
                    crossings = [pattern[one][0] // 4 == other // 4, pattern[other][0] // 4 == one // 4]
                    self.same(is_walk(pattern, (one, other)), all(crossings))

    def test_is_walk_for_any_value(self):
        for thing in (*ODD, [0], [0, 1], (True,), (0, True), (False,), (0.0,), (-1,), (8,), (0, 8), ("0",), (None,),
                      ((0,),), "0", 0, (0, (1,)), {}, (GREAT,), (-4,)):
            if repr(thing) not in ("(0,)", "(1, 0)"):
                self.same(is_walk(THREE, thing), False)
                self.not_usable("walk", walk_total, THREE, thing)
        self.same((is_walk(TWO, (0, 1)), is_walk(TWO, (0, True)), is_walk(TWO, (1, 4))), (True, False, False))
        self.same((is_walk(THREE, ()), is_walk(pattern=FOUR, thing=(0,))), (False, True))

    def test_refusals(self):
        for function in (loops_of, windings_of):
            self.refuses_in_order(function, ("pattern", "laying"), (THREE, "DL"), ((), NO_LAYINGS))
        self.refuses_in_order(loop_at, ("pattern", "laying", "end"), (THREE, "XL", 5),
                              ((), NO_LAYINGS, (*NO_INTEGERS, -1, 8, GREAT)))
        self.refuses_in_order(walk_total, ("pattern", "walk"), (THREE, (0, 2, 7, 5)), ((), (0, (), [0], (2,))))


if __name__ == "__main__":
    unittest.main()
