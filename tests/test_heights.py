import unittest

import reference
import reference_loops
from samples import FEW, FOUR, GREAT, MANY, NO_INTEGERS, SOME, THREE, TWO, StrictCase
from test_layingkinds import NO_LAYINGS
from threadsround.heights import heights_of, loop_directions

RIGHT = (1, -1, -1, 1, 1, -1, -1, 1)
NO_DIRECTIONS = (True, None, 0, "", (), RIGHT[:7], (*RIGHT, 0), list(RIGHT), (True, *RIGHT[1:]), (-1, *RIGHT[1:]),
                 (2, -2, -2, 2, 1, -1, -1, 1), (False,) * 8, ("0",) * 8, ((),) * 8)


class HeightsTest(StrictCase):
    def test_examples(self):
        self.same(heights_of(THREE, RIGHT), (0, 1, 2, 3))

    def check(self, pattern, directions):
        heights = heights_of(pattern, directions)
        self.assertEqual([type(heights), *[type(x) for x in heights]], [tuple] + [int] * (len(pattern) // 4 + 2))
        self.assertTrue(reference_loops.are_heights(pattern, directions, heights), (pattern, directions))
        return heights

    def test_each_line(self):
        for pattern in MANY:
            sums = reference.totals(pattern)
            for laying in reference.layings(pattern)[::7]:
                directions = reference_loops.directed(pattern, laying)
                heights = self.check(pattern, directions)
                self.assertEqual(heights[sums.index(1)], 0)
                # By directed the outside has the sum of the windings.
                self.assertEqual(heights[sums.index(-1)], sum(reference.windings(pattern, laying)))
                self.check(pattern, tuple(-x for x in directions))
                for end in range(0, len(pattern), 3):
                    self.check(pattern, reference_loops.directed(pattern, laying, end))
            self.check(pattern, (0,) * len(pattern))

    def test_heights_below_the_middle(self):
        self.same(heights_of(pattern=THREE, directions=tuple(-x for x in RIGHT)), (0, -1, -2, -3))
        self.same(heights_of(THREE, (0,) * 8), (0, 0, 0, 0))
        self.same(heights_of(TWO, (1, -1, 1, -1)), (0, 1, 0))

    def test_loop_directions(self):
        for pattern in [*SOME[::3], FOUR]:
            for laying in reference.layings(pattern)[::5]:
                for end, (to, _) in enumerate(pattern):
                    wanted = reference_loops.directed(pattern, laying, end)
                    self.same(loop_directions(pattern, laying, end), wanted)
                    self.same(loop_directions(pattern, laying, to), wanted)
                    self.assertIn(wanted[end], (1, -1))

    def test_the_loops_together(self):
        for pattern in FEW:
            for laying in reference.layings(pattern)[::4]:
                whole = [0] * len(pattern)
                for loop in reference.loops(pattern, laying):
                    for end, one in enumerate(loop_directions(pattern, laying, loop[0])):
                        whole[end] += one
                self.same(tuple(whole), reference_loops.directed(pattern, laying))

    def test_refusals(self):
        self.refuses_in_order(heights_of, ("pattern", "directions"), (THREE, RIGHT), ((), NO_DIRECTIONS))
        self.refuses_in_order(loop_directions, ("pattern", "laying", "end"), (THREE, "XL", 5),
                              ((), NO_LAYINGS, (*NO_INTEGERS, -1, 8, GREAT)))


if __name__ == "__main__":
    unittest.main()
