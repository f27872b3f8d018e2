import unittest

import reference
from samples import FOUR, FOURS, GREAT, LEAF, NAMED, NO_TUPLES, ODD, ONES, SOME, THREE, THREES, TWO, TWOS, StrictCase
from threadsround.patternchecker import is_pattern, lets_pattern
from threadsround.patternclasses import Pattern


def changed(pattern, places):
    """The pattern with other elements at these places."""
    return tuple(places.get(e, pair) for e, pair in enumerate(pattern))


def beside(one, other):
    """Both patterns as one tuple, in two parts."""
    return one + tuple((to + len(one), shift) for to, shift in other)


def wreath(many):
    """Strands enough that the checks must not go deep: a pattern of two strands and many crossings."""
    ends = []
    for c in range(many):
        behind, ahead = (c - 1) % many, (c + 1) % many
        ends += [(4 * ahead + 1, int(c == many - 1)), (4 * behind, -int(c == 0)),
                 (4 * behind + 3, -int(c == 0)), (4 * ahead + 2, int(c == many - 1))]
    return tuple(ends)


class PatternCheckerTest(StrictCase):
    def refused(self, thing, word, at):
        self.invalid(word, at, lets_pattern, thing)
        self.same(is_pattern(thing), False)
        self.same(reference.fault(thing), (word, at))

    def test_examples(self):
        self.refused(((1, 1), (0, 1), (3, -1), (2, 1)), "back", 0)

    def test_right_ones(self):
        for pattern in [*SOME, *ONES, *TWOS, *THREES, *FOURS]:
            self.same(lets_pattern(pattern), len(pattern) // 4)
            self.same(is_pattern(pattern), True)
        self.same([lets_pattern(thing=pattern) for pattern in NAMED], [1, 2, 3, 1])
        self.same(lets_pattern(wreath(1249)), 1249)
        self.same(lets_pattern(((1, 1), (0, -1), (3, -1), (2, 1))), 1)

    def test_shape(self):
        for thing in [*NO_TUPLES, (), ((1, 1),), TWO[:3], THREE[:6], THREE + TWO[:1], (1, 2, 3), {}]:
            self.refused(thing, "shape", -1)
        self.refused(list(TWO), "shape", -1)
        self.refused(Pattern(TWO), "shape", -1)

    def test_end(self):
        for bad in ([1, 1], (1,), (1, 1, 0), (True, 1), (1, True), (1, None), ("1", 1), (1, "1"), 1, None, "11", (),
                    (0, 1), (0, 0), (4, 1), (-1, 1), (GREAT, 1), ((1,), 1), (1, (1,)), (-GREAT, 0), (False, 0)):
            self.refused(changed(TWO, {0: bad}), "end", 0)
        for bad in ([2, 1], (3, -1, 0), (True, -1), (3, False), (4, 0), (-1, 0), (2, 0)):
            self.refused(changed(TWO, {2: bad}), "end", 2)
        self.refused(changed(THREE, {6: (6, 0), 7: (7, 0)}), "end", 6)
        self.refused((1, 2, 3, 4), "end", 0)

    def test_back(self):
        self.refused(changed(TWO, {1: (0, 1)}), "back", 0)
        self.refused(changed(TWO, {1: (0, 0)}), "back", 0)
        self.refused(changed(TWO, {1: (2, -1)}), "back", 0)
        self.refused(changed(TWO, {1: [0, -1]}), "back", 0)
        self.refused(changed(TWO, {1: (0, -1, 0)}), "back", 0)
        self.refused(changed(TWO, {3: (2, -1)}), "back", 2)
        self.refused(changed(THREE, {4: (2, True)}), "back", 2)
        self.refused(changed(LEAF, {3: (2, False)}), "back", 2)
        self.refused(((1, 1), (False, -1), (3, -1), (2, 1)), "back", 0)
        self.refused(((2, 0), (3, 0), (False, 0), (True, 0)), "back", 0)

    def test_one_element_ahead_of_the_next(self):
        self.refused(changed(TWO, {1: (1, 1)}), "back", 0)
        self.refused(changed(TWO, {0: (3, 0), 1: None}), "back", 0)
        self.refused(changed(TWO, {1: None, 2: None}), "back", 0)
        self.refused(changed(THREE, {5: None, 0: (0, 0)}), "end", 0)
        self.refused(changed(THREE, {3: (5, 1), 4: None}), "back", 2)
        self.refused(changed(beside(TWO, LEAF), {6: None}), "end", 6)
        crossing_lines = ((2, 0), (3, 0), (0, 0), (1, 0))
        self.refused(beside(crossing_lines, crossing_lines), "apart", 1)

    def test_apart(self):
        for one in (TWO, THREE, FOUR, LEAF):
            for other in (TWO, THREE):
                self.refused(beside(one, other), "apart", len(one) // 4)
                self.refused(beside(beside(one, other), LEAF), "apart", len(one) // 4)
        mixed = ((9, 0), (8, 0), (11, 0), (10, 0), (5, 1), (4, -1), (7, -1), (6, 1), (1, 0), (0, 0), (3, 0), (2, 0))
        self.refused(mixed, "apart", 1)
        self.refused(beside(wreath(300), wreath(300)), "apart", 300)
        self.refused(beside(wreath(40), TWO), "apart", 40)
        self.refused(beside(TWO, wreath(40)), "apart", 1)

    def test_faces(self):
        self.refused(((2, 0), (3, 0), (0, 0), (1, 0)), "faces", 1)
        self.refused(((2, 1), (3, 1), (0, -1), (1, -1)), "faces", 1)
        crossed = 0
        for lines in reference.matchings(list(range(8))):
            bare = [None] * 8
            for one, other in lines:
                bare[one], bare[other] = (other, 0), (one, 0)
            fault = reference.fault(tuple(bare))
            self.refused(tuple(bare), *fault)
            crossed += fault[0] == "faces"
        self.assertGreater(crossed, 20)

    def test_totals(self):
        for shifts in ((0, 0), (2, -2), (1, 1), (-1, -1), (1, -2), (2, -1), (GREAT, -GREAT), (3, -3)):
            one, other = shifts
            self.refused(((1, one), (0, -one), (3, other), (2, -other)), "totals", -1)
        self.refused(tuple((to, 0) for to, _ in FOUR), "totals", -1)
        self.refused(tuple((to, 2 * shift) for to, shift in FOUR), "totals", -1)
        # Two faces with 1 and two with -1.
        self.refused(((1, 1), (0, -1), (4, 0), (5, 2), (2, 0), (3, -2), (7, -1), (6, 1)), "totals", -1)

    def test_against_the_reference(self):
        for pattern in SOME:
            size = len(pattern)
            for e in range(0, size, 3):
                to, shift = pattern[e]
                for bad in ((to, shift + 1), ((to + 1) % size, shift), (to, -shift), (pattern[(e + 1) % size])):
                    thing = changed(pattern, {e: bad})
                    fault = reference.fault(thing)
                    if fault is None:
                        self.same(lets_pattern(thing), size // 4)
                    else:
                        self.refused(thing, *fault)
            both = changed(pattern, {0: (pattern[0][0], pattern[0][1] + 1), pattern[0][0]: (0, -pattern[0][1] - 1)})
            fault = reference.fault(both)
            self.same(is_pattern(both), fault is None)
            if fault is not None:
                self.refused(both, *fault)

    def test_any_value(self):
        for thing in ODD:
            self.same(is_pattern(thing), False)
        deep = ()
        for _ in range(30):
            deep = (deep,)
        self.same(is_pattern(thing=deep), False)
        self.refused((deep, deep, deep, deep), "end", 0)


if __name__ == "__main__":
    unittest.main()
