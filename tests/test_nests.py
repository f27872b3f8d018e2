import unittest

import reference
import reference_loops
from samples import FEW, LEAF, MANY, THREE, TWO, StrictCase
from test_layingkinds import NO_LAYINGS
from threadsround.mirrors import inside_out
from threadsround.nests import meetings, nest_of


def met_by(ends, loop):
    return {end // 4 for end in loop} | {ends[end][0] // 4 for end in loop}


def heights(ends, laying):
    """The heights by the loops that lie between the middle and each face, going up from the middle."""
    directions = reference_loops.directed(ends, laying)
    found = {reference.totals(ends).index(1): 0}
    for _ in ends:
        for end, (one, two) in enumerate(reference_loops.sides(ends)):
            if one in found:
                found[two] = found[one] + directions[end]
    return found


class NestsTest(StrictCase):
    def test_examples(self):
        self.same(nest_of(inside_out(THREE), "DL"), ((6,), (2, 5), (0,)))

    def test_nest_of_all_plain_layings(self):
        many = 0
        for pattern in MANY:
            for laying in reference.layings(pattern, "DL"):
                windings = reference.windings(pattern, laying)
                if 0 in windings:
                    self.not_usable("laying", nest_of, pattern, laying)
                    continue
                many += 1
                nest = nest_of(pattern, laying)
                self.same(tuple(sorted(nest)), reference.loops(pattern, laying))
                high = heights(pattern, laying)
                for k, loop in enumerate(nest):
                    for end in loop:
                        near = [high[face] for face in reference_loops.sides(pattern)[end]]
                        self.assertEqual(sorted(near), [k, k + 1])
                self.check_neighbours(pattern, nest)
        self.assertGreater(many, 350)

    def check_neighbours(self, pattern, nest):
        """In a nest just neighbours meet, and each one meets the next."""
        for k, one in enumerate(nest):
            for j in range(k + 1, len(nest)):
                self.assertEqual(bool(met_by(pattern, one) & met_by(pattern, nest[j])), j == k + 1)

    def test_meetings(self):
        for pattern in MANY:
            for laying in reference.layings(pattern)[::2]:
                loops = [met_by(pattern, loop) for loop in reference.loops(pattern, laying)]
                wanted = [c for c in range(len(pattern) // 4) if len([loop for loop in loops if c in loop]) == 2]
                self.same(meetings(pattern, laying), tuple(wanted))
        self.same((meetings(TWO, "X"), meetings(pattern=TWO, laying="D"), meetings(LEAF, "X")), ((), (0,), ()))
        self.same((meetings(THREE, "LX"), meetings(THREE, "XX")), ((0,), ()))

    def test_refusals(self):
        for pattern in FEW[::5]:
            for laying in reference.layings(pattern)[::3]:
                if "X" in laying:
                    self.not_usable("laying", nest_of, pattern, laying)
        for laying in ("DD", "LL", "XX", "LX", "XD"):
            self.not_usable("laying", nest_of, THREE, laying)
        for function in (nest_of, meetings):
            self.refuses_in_order(function, ("pattern", "laying"), (THREE, "LD"), ((), NO_LAYINGS))


if __name__ == "__main__":
    unittest.main()
