import unittest

import reference
import reference_loops
from samples import FEW, GREAT, LEAF, MANY, NO_INTEGERS, THREE, StrictCase
from threadsround.lows import level_loops, lows_laying


class LowsTest(StrictCase):
    def test_examples(self):
        self.same((lows_laying(THREE), lows_laying(LEAF)), ("LD", "L"))
        self.same((level_loops(THREE, 2), level_loops(LEAF, 2), level_loops(LEAF, 3)), (((2, 5),), ((2,),), ()))

    def test_lows_laying(self):
        first = second = 0
        for pattern in MANY:
            letters = lows_laying(pattern)
            self.same(letters, reference_loops.lows(pattern))
            far = reference.distances(pattern, reference.totals(pattern).index(1))
            for c, letter in enumerate(letters):
                near = [far[reference.face_number(pattern, 4 * c + p)] for p in range(4)]
                low = [far[reference.face_number(pattern, k)] for k in reference.letter_corners(pattern, c, letter)]
                if max(near) - min(near) == 1:
                    first += 1
                    self.assertEqual(low, [min(near)] * 2)
                else:
                    second += 1
                    self.assertEqual(low, [min(near) + 1] * 2)
        self.assertGreater(min(first, second), 100)
        self.same(lows_laying(pattern=THREE), "LD")

    def test_level_loops(self):
        for pattern in MANY:
            cut = reference.cut(pattern)
            far = reference.distances(pattern, reference.totals(pattern).index(1))
            near = reference_loops.sides(pattern)
            loops = reference.loops(pattern, reference_loops.lows(pattern))
            told = []
            for many in range(1, max(far) + 3):
                levels = level_loops(pattern, many)
                wanted = [loop for loop in loops
                          if all({far[face] for face in near[end]} == {many - 1, many} for end in loop)]
                self.same(levels, tuple(wanted))
                totals = [abs(sum(pattern[end][1] for end in loop)) for loop in levels]
                self.assertEqual([total for total in totals if total], [1] * (many <= cut))
                told += levels
            self.same(tuple(sorted(told)), loops)
        self.same(level_loops(pattern=THREE, many=36), ())

    def test_drawings(self):
        for pattern in FEW[::4]:
            whole = reference.drawing(pattern, 3)
            self.same(lows_laying(whole), lows_laying(pattern) * 3)

    def test_refusals(self):
        self.refuses_in_order(level_loops, ("pattern", "many"), (THREE, 2), ((), (*NO_INTEGERS, 0, -1, -GREAT)))
        self.same(level_loops(THREE, GREAT), ())


if __name__ == "__main__":
    unittest.main()
