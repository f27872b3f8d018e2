import unittest

import reference
from samples import FEW, GREAT, NO_INTEGERS, NO_TUPLES, ODD, ONES, SOME, THREE, TWO, TWOS, StrictCase
from threadsround.liftings import is_modular, lifted
from threadsround.patternchecker import is_pattern

CROSSED = ((2, 0), (3, 0), (0, 0), (1, 0))


def modulo(sectors, ends):
    return tuple((to, shift % sectors) for to, shift in ends)


def moved(pattern, by):
    far = [by * (c * c + c + 1) for c in range(len(pattern) // 4)]
    return reference.moved_crossings(pattern, far)


def changed(ends, places):
    return tuple(places.get(e, pair) for e, pair in enumerate(ends))


class ModularTest(StrictCase):
    def test_right_ones(self):
        for pattern in [*SOME, *TWOS[::5]]:
            for sectors in (3, 4, 7, 36, GREAT):
                for by in (0, 1, -5):
                    self.same(is_modular(sectors, modulo(sectors, moved(pattern, by))), True)
        self.same(is_modular(sectors=3, thing=((1, 1), (0, 2), (3, 2), (2, 1))), True)

    def test_bent_lines(self):
        for pattern in FEW:
            for sectors in (3, 5):
                ends = modulo(sectors, moved(pattern, 1))
                for e, (to, shift) in enumerate(ends):
                    at_one = changed(ends, {e: (to, (shift + 1) % sectors)})
                    self.same(is_modular(sectors, at_one), False)
                    both = changed(at_one, {to: (e, (-shift - 1) % sectors)})
                    self.same(is_modular(sectors, both), reference.is_modular(sectors, both))
                    for bad in ((to, shift - sectors), (to, shift + sectors), [to, shift], (to, shift, 0), (to,), to,
                                (to, str(shift)), (e, shift), (len(ends), shift), (-1, shift), (to, None)):
                        self.same(is_modular(sectors, changed(ends, {e: bad})), False)
                    if shift < 2:
                        self.same(is_modular(sectors, changed(ends, {e: (to, bool(shift))})), False)
                    if to < 2:
                        self.same(is_modular(sectors, changed(ends, {e: (bool(to), shift)})), False)

    def test_bent_at_both_ends_is_refused_in_every_pattern_of_one_crossing(self):
        for pattern in ONES:
            ends = modulo(5, pattern)
            to, shift = ends[0]
            both = changed(ends, {0: (to, (shift + 1) % 5), to: (0, (-shift - 1) % 5)})
            self.same(is_modular(5, both), reference.is_modular(5, both))

    def test_not_modular(self):
        for thing in [*NO_TUPLES, *ODD, (), CROSSED, TWO[:3], list(modulo(3, TWO))]:
            self.same(is_modular(3, thing), False)
        ends = modulo(3, THREE)
        parted = ends + tuple((to + 8, shift) for to, shift in ends)
        self.same(is_modular(3, parted), False)
        # Two bare parts, one with both totals: only the crossings are apart.
        bare = tuple((to + 8, 0) for to, _ in TWO)
        self.same(is_modular(3, ends + bare), False)
        crossed = CROSSED[:2] + ((0, 0), (1, 0))
        self.same(is_modular(3, crossed), False)
        self.same(is_modular(3, ((2, 1), (3, 2), (0, 2), (1, 1))), False)
        self.same(is_modular(3, ((1, 0), (0, 0), (3, 0), (2, 0))), False)
        self.same(is_modular(3, ((1, 1), (0, 2), (3, 1), (2, 2))), False)
        self.same(is_modular(4, ((1, 2), (0, 2), (3, 2), (2, 2))), False)
        self.same(is_modular(5, ((1, 1), (0, 4), (3, 2), (2, 3))), False)
        self.same(is_modular(4, ((1, 3), (0, 1), (3, 1), (2, 3))), True)
        self.same(is_modular(3, TWO), False)

    def test_apart_though_faces_and_totals_are_right(self):
        for pattern in FEW:
            ends = modulo(3, pattern)
            for more in (CROSSED, ((3, 0), (2, 0), (1, 0), (0, 0))):
                thing = ends + tuple((to + len(ends), shift) for to, shift in more)
                self.same(is_modular(3, thing), False)

    def test_not_the_way_back_though_totals_are_right(self):
        for pattern in FEW:
            ends = modulo(5, pattern)
            for face in reference.faces(ends):
                for one, other in zip(face, face[1:]):
                    bent = {one: (ends[one][0], (ends[one][1] + 1) % 5),
                            other: (ends[other][0], (ends[other][1] - 1) % 5)}
                    self.same(is_modular(5, changed(ends, bent)), False)

    def test_patterns_with_small_shifts_against_the_reference(self):
        for lines in list(reference.matchings(list(range(8))))[::2]:
            for shifts in ((0, 0, 0, 0), (1, 0, 0, 2), (1, 2, 0, 0), (2, 1, 1, 0)):
                ends = [None] * 8
                for (one, other), shift in zip(lines, shifts):
                    ends[one], ends[other] = (other, shift), (one, -shift % 3)
                self.same(is_modular(3, tuple(ends)), reference.is_modular(3, tuple(ends)))


class LiftedTest(StrictCase):
    def test_examples(self):
        self.same(lifted(3, ((1, 1), (0, 2), (3, 2), (2, 1))), ((1, 1), (0, -1), (3, -1), (2, 1)))

    def far_of(self, ends, pattern):
        """For each crossing how far it is moved, found along lines."""
        far = {0: 0}
        while len(far) < len(ends) // 4:
            for e, (to, shift) in enumerate(ends):
                if e // 4 in far and to // 4 not in far:
                    far[to // 4] = far[e // 4] + shift - pattern[e][1]
        return far

    def test_lifted(self):
        for start in SOME:
            for sectors in (3, 4, 9):
                for by in (0, 1, -2):
                    ends = modulo(sectors, moved(start, by))
                    pattern = lifted(sectors, ends)
                    self.same(is_pattern(pattern), True)
                    self.same([to for to, _ in pattern], [to for to, _ in ends])
                    far = self.far_of(ends, pattern)
                    for e, (to, shift) in enumerate(ends):
                        self.assertEqual((shift + far[e // 4] - far[to // 4] - pattern[e][1]) % sectors, 0)
                    self.assertTrue(reference.is_alike_map(start, pattern, tuple(range(len(start)))))

    def test_by_name_and_again(self):
        ends = modulo(36, moved(THREE, 17))
        self.same(lifted(sectors=36, ends=ends), lifted(36, ends))

    def test_refusals(self):
        right = modulo(3, THREE)
        no_sectors = (*NO_INTEGERS, 2, 1, 0, -3, -GREAT)
        no_ends = (*ODD, THREE, modulo(4, moved(THREE, 1)), list(right), right[:4], right + right, CROSSED)
        self.refuses_in_order(lifted, ("sectors", "ends"), (3, right), (no_sectors, no_ends))
        self.not_usable("ends", lifted, 4, right)


if __name__ == "__main__":
    unittest.main()
