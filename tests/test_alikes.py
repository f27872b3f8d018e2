import unittest

import reference
from samples import FEW, FOUR, FOURS, GREAT, LEAF, NO_INTEGERS, ODD, ONES, SOME, THREE, THREES, TWO, TWOS, StrictCase
from threadsround.alikes import alike_map, are_alike, least_writing, writing_from
from threadsround.mirrors import inside_out, mirrored
from threadsround.namings import moved_on, renamed, spun
from threadsround.patternchecker import is_pattern
from threadsround.petals import petal_on

NO_PATTERNS = (*ODD, list(TWO), TWO[:3], ((1, 1), (0, 1), (3, -1), (2, 1)), ((2, 0), (3, 0), (0, 0), (1, 0)))


def middle(pattern):
    return reference.faces(pattern)[reference.totals(pattern).index(1)]


def writing(pattern, corner):
    """The writing by the words of [25]: numbers first, then sectors."""
    firsts, tree = [corner], []
    k = 0
    while k < len(firsts):
        for position in range(4):
            first = firsts[k]
            end = first - first % 4 + (first + position) % 4
            to = pattern[end][0]
            if to // 4 not in [f // 4 for f in firsts]:
                firsts.append(to)
                tree.append(end)
        k += 1
    name = {}
    for k, first in enumerate(firsts):
        for position in range(4):
            name[first - first % 4 + (first + position) % 4] = 4 * k + position
    far = {corner // 4: 0}
    for end in tree:
        to, shift = pattern[end]
        far[to // 4] = far[end // 4] + shift
    told = {name[e]: (name[to], s + far[e // 4] - far[to // 4]) for e, (to, s) in enumerate(pattern)}
    assert all(told[name[end]][1] == 0 for end in tree)
    return tuple(told[e] for e in range(len(pattern)))


def disguised(pattern, by):
    """The pattern under other names of crossings, positions and sectors."""
    many = len(pattern) // 4
    pattern = renamed(pattern, tuple((c + by) % many for c in range(many)))
    for c in range(many):
        pattern = moved_on(spun(pattern, c, by + c), c, by * c + 1)
    return pattern


class AlikesTest(StrictCase):
    def test_writing_from(self):
        self.same(writing_from(TWO, 0), TWO)
        self.same(writing_from(THREE, 0), ((1, 1), (0, -1), (4, 0), (5, 1), (2, 0), (3, -1), (7, -1), (6, 1)))
        for pattern in SOME:
            for corner in middle(pattern):
                told = writing_from(pattern, corner)
                self.same(told, writing(pattern, corner))
                self.same(is_pattern(told), True)

    def test_least_writing(self):
        for pattern in SOME:
            wanted = min(writing(pattern, corner) for corner in middle(pattern))
            self.same(least_writing(pattern), wanted)
            self.same(least_writing(wanted), wanted)
            for by in (1, 2):
                self.same(least_writing(disguised(pattern, by)), wanted)

    def test_least_writings_are_the_same_exactly_for_alike_patterns(self):
        # The classes of all patterns of two crossings, by the maps of [4] alone.
        kinds = []
        for pattern in TWOS[::3]:
            for kind in kinds:
                if reference.alike_maps(pattern, kind[0]):
                    kind.append(pattern)
                    break
            else:
                kinds.append([pattern])
        self.assertEqual(len(kinds), 15)
        self.assertEqual(len({least_writing(kind[0]) for kind in kinds}), 15)
        for kind in kinds:
            self.assertEqual(len({least_writing(pattern) for pattern in kind}), 1)

    def check_map(self, one, other, wanted):
        self.same(are_alike(one, other), wanted)
        ends = alike_map(one, other)
        if wanted:
            self.assertTrue(reference.is_alike_map(one, other, ends))
            self.same(type(ends) is tuple, True)
            self.assertIn(ends, reference.alike_maps(one, other))
        else:
            self.same(ends, None)

    def test_under_other_names(self):
        for pattern in FEW:
            for by in (0, 1, 3):
                self.check_map(pattern, disguised(pattern, by), True)

    def test_each_two_of_some(self):
        some = [*ONES[::2], *TWOS[::97], *THREES[::11], *FOURS[::15], TWO, THREE, FOUR, LEAF]
        for one in some:
            for other in some:
                self.check_map(one, other, bool(reference.alike_maps(one, other)))

    def test_mirrored_and_inside_out(self):
        unlike = 0
        for pattern in FEW:
            for other in (mirrored(pattern), inside_out(pattern), inside_out(mirrored(pattern))):
                wanted = bool(reference.alike_maps(pattern, other))
                unlike += not wanted
                self.check_map(pattern, other, wanted)
        self.assertGreater(unlike, 20)
        self.check_map(LEAF, inside_out(LEAF), False)
        self.check_map(TWO, mirrored(TWO), True)

    def test_middle_and_outside_count(self):
        # The same crossings and lines, the totals in other faces.
        self.check_map(TWO, LEAF, False)
        self.check_map(((1, 1), (0, -1), (3, 0), (2, 0)), ((1, 0), (0, 0), (3, 1), (2, -1)), True)
        self.check_map(((1, 1), (0, -1), (3, 0), (2, 0)), ((1, -1), (0, 1), (3, 0), (2, 0)), False)

    def test_one_crossing_more(self):
        for pattern in FEW[:20]:
            self.check_map(pattern, petal_on(pattern, 0, 0), False)
            self.check_map(petal_on(pattern, 0, 0), pattern, False)

    def test_refusals(self):
        for pattern in (TWO, THREE, FOUR, LEAF):
            for corner in range(len(pattern)):
                if corner not in middle(pattern):
                    self.not_usable("corner", writing_from, pattern, corner)
        self.refuses_in_order(writing_from, ("pattern", "corner"), (THREE, 0),
                              ((), (*NO_INTEGERS, -1, 1, 2, 7, 8, GREAT)))
        for function in (are_alike, alike_map):
            self.refuses_in_order(function, ("pattern", "other"), (THREE, TWO), ((), NO_PATTERNS))
        self.same(least_writing(pattern=TWO), TWO)


if __name__ == "__main__":
    unittest.main()
