import unittest
from itertools import product

import reference
import reference_loops
from samples import FEW, GREAT, MANY, ODD, ONES, SOME, THREE, TWO, StrictCase
from test_layingkinds import NO_LAYINGS
from threadsround.directions import dark_left, directed, is_directions


class DirectionsTest(StrictCase):
    def test_examples(self):
        self.same(directed(THREE, "LX"), (1, -1, -1, 1, 1, -1, -1, 1))

    def test_each_tuple_of_one_crossing(self):
        for pattern in ONES:
            for thing in product((-1, 0, 1), repeat=4):
                self.same(is_directions(pattern, thing), reference_loops.is_directions(pattern, thing))

    def test_right_ones_and_one_end_turned_about(self):
        for pattern in FEW:
            for laying in reference.layings(pattern)[::5]:
                right = reference_loops.directed(pattern, laying)
                self.same(is_directions(pattern, right), True)
                for end in range(len(pattern)):
                    for other in (-1, 0, 1, 2):
                        changed = right[:end] + (other,) + right[end + 1:]
                        self.same(is_directions(pattern, changed), changed == right)
                    # Both ends of one line turned about: the crossings no longer sum up, but for a line back to its own.
                    to = pattern[end][0]
                    turned = tuple(-x if k in (end, to) else x for k, x in enumerate(right))
                    self.same(is_directions(pattern, turned), reference_loops.is_directions(pattern, turned))

    def test_any_value(self):
        right = (1, -1, -1, 1, 1, -1, -1, 1)
        self.same(is_directions(THREE, right), True)
        self.same(is_directions(THREE, tuple(2 * x for x in right)), False)
        self.same(is_directions(pattern=THREE, thing=(0,) * 8), True)
        for wrong in (right[:7], right + (0,), right + (1, -1, 0, 0), (), right[:4], list(right), (True, *right[1:]),
                      tuple(bool(x) for x in right), (2, -2, -2, 2, 1, -1, -1, 1), (False,) * 8, (0,) * 7, (0,) * 9, (0.0,) * 8,
                      ((0,),) * 8, ("0",) * 8, (None,) * 8, "0" * 8, [0] * 8, (GREAT, -GREAT) * 4, *ODD):
            self.same(is_directions(THREE, wrong), False)
        # The line of end 2 led against itself.
        self.same(is_directions(TWO, (1, -1, 1, 1)), False)
        self.same(is_directions(TWO, (1, 1, -1, -1)), False)

    def test_directed_for_all_layings(self):
        for pattern in MANY:
            for laying in reference.layings(pattern)[::3]:
                directions = directed(pattern, laying)
                self.same(directions, reference_loops.directed(pattern, laying))
                self.same(is_directions(pattern, directions), True)

    def test_each_loop_leads_as_told(self):
        for pattern in SOME[::3]:
            for laying in reference.layings(pattern)[::2]:
                directions = directed(pattern, laying)
                for loop in reference.loops(pattern, laying):
                    ends = [*loop, *(pattern[end][0] for end in loop)]
                    leaving = [end for end in ends if directions[end] == 1]
                    self.assertEqual(len(leaving), len(loop))
                    total = sum(pattern[end][1] for end in leaving)
                    small = sum(pattern[end][1] for end in loop) == 0
                    self.assertTrue(total > 0 or (small and directions[min(ends)] == 1))

    def test_dark_left(self):
        for pattern in MANY:
            wanted = tuple(1 if reference.is_dark(pattern, end) else -1 for end in range(len(pattern)))
            self.same(dark_left(pattern), wanted)
            self.same(is_directions(pattern, wanted), True)
        self.same(dark_left(pattern=TWO), (-1, 1, -1, 1))

    def test_refusals(self):
        self.refuses_in_order(directed, ("pattern", "laying"), (THREE, "DL"), ((), NO_LAYINGS))


if __name__ == "__main__":
    unittest.main()
