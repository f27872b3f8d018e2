import unittest

import reference
import reference_loops
from samples import DRAWN, FAR, FOUR, GREAT, LEAF, NO_INTEGERS, SOME, THREE, TWO, WIDE, StrictCase
from test_pieces import NOT_PLAIN
from threadsround.errors import NotLayable
from threadsround.lows import lows_laying
from threadsround.meltings import can_melt, melted, melted_down


def loops_at(ends, laying, crossing):
    """The totals, in size, of the unlike loops that meet the crossing."""
    found = [loop for loop in reference.loops(ends, laying)
             if any(crossing in (end // 4, ends[end][0] // 4) for end in loop)]
    return [abs(sum(ends[end][1] for end in loop)) for loop in found]


class MeltingsTest(StrictCase):
    def test_examples(self):
        self.same((melted(THREE, "LD", 0), can_melt(THREE, "DD", 0), melted_down(THREE, "LD", 1)), ("DD", False, "DL"))

    def test_melting_all_plain_layings(self):
        for pattern in SOME[::2] + WIDE[:2]:
            for laying in reference.layings(pattern, "DL"):
                windings = list(reference.windings(pattern, laying))
                for crossing in range(len(laying)):
                    met = loops_at(pattern, laying, crossing)
                    self.same(can_melt(pattern, laying, crossing), len(met) == 2)
                    if len(met) < 2:
                        self.not_usable("crossing", melted, pattern, laying, crossing)
                        continue
                    other = {"D": "L", "L": "D"}[laying[crossing]]
                    after = melted(pattern, laying, crossing)
                    self.same(after, laying[:crossing] + other + laying[crossing + 1:])
                    # Two that go round become a small one; a small one leaves the winding of the other.
                    left = sorted(windings)
                    for winding in met:
                        left.remove(winding)
                    left.append(max(met) if 0 in met else 0)
                    self.assertEqual(sorted(reference.windings(pattern, after)), sorted(left))

    def test_melted_down_from_all_plain_layings(self):
        for pattern in [*SOME[::2], *WIDE, *FAR]:
            for laying in reference.layings(pattern, "DL")[::2]:
                windings = reference.windings(pattern, laying)
                going_round = len([winding for winding in windings if winding])
                for many in range(1, going_round + 3):
                    if many > going_round:
                        self.raises(NotLayable, {"word": "many", "at": many}, melted_down, pattern, laying, many)
                    elif (many - going_round) % 2:
                        self.raises(NotLayable, {"word": "unlike", "at": many}, melted_down, pattern, laying, many)
                    else:
                        down = melted_down(pattern, laying, many)
                        self.assertTrue(type(down) is str and set(down) <= {"D", "L"})
                        self.same(reference.windings(pattern, down), (1,) * many)

    def test_great_patterns(self):
        strands = reference_loops.strands(37, tuple(range(1, 37)))
        for many in (1, 3, 35, 37):
            self.same(reference.windings(strands, melted_down(strands, lows_laying(strands), many)), (1,) * many)
        for pattern in (reference.drawing(FOUR, 12), reference.drawing(DRAWN[2], 6)):
            few = 2 - reference.cut(pattern) % 2
            self.same(reference.windings(pattern, melted_down(pattern, lows_laying(pattern), few)), (1,) * few)

    def test_refusals(self):
        for function in (can_melt, melted):
            self.refuses_in_order(function, ("pattern", "laying", "crossing"), (THREE, "LD", 1),
                                  ((), NOT_PLAIN, (*NO_INTEGERS, -1, 2, GREAT)))
        self.refuses_in_order(melted_down, ("pattern", "laying", "many"), (THREE, "LD", 3),
                              ((), NOT_PLAIN, (*NO_INTEGERS, 0, -1, -GREAT)))
        self.not_usable("crossing", melted, THREE, "DD", 0)
        self.raises(NotLayable, {"word": "many", "at": GREAT}, melted_down, THREE, "LD", GREAT)
        self.raises(NotLayable, {"word": "many", "at": 4}, melted_down, THREE, "LD", 4)
        self.raises(NotLayable, {"word": "unlike", "at": 2}, melted_down, THREE, "LD", 2)
        self.raises(NotLayable, {"word": "many", "at": 3}, melted_down, THREE, "DL", 3)
        # TWO laid L has a small loop alone.
        self.raises(NotLayable, {"word": "many", "at": 1}, melted_down, TWO, "L", 1)
        self.same((can_melt(LEAF, "D", 0), can_melt(LEAF, "L", 0), melted_down(LEAF, "L", 1)), (False, True, "D"))


if __name__ == "__main__":
    unittest.main()
