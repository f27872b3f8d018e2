import unittest
from itertools import permutations

import reference
from samples import FEW, FOUR, GREAT, LEAF, NO_INTEGERS, SOME, THREE, TWO, StrictCase
from threadsround.namings import moved_on, renamed, spun
from threadsround.patternchecker import is_pattern

GREAT_PATTERNS = [pattern for pattern in FEW if len(pattern) > 4]


class NamingsTest(StrictCase):
    def check_map(self, pattern, other, names):
        """other has, under names, the same faces, totals and colours."""
        self.same(is_pattern(other), True)
        mine = zip(reference.faces(pattern), reference.totals(pattern), reference.colours(pattern))
        its = zip(reference.faces(other), reference.totals(other), reference.colours(other))
        wanted = sorted((sorted(names[c] for c in face), total, colour) for face, total, colour in mine)
        self.assertEqual(wanted, sorted((sorted(face), total, colour) for face, total, colour in its))
        self.assertEqual(reference.cut(other), reference.cut(pattern))

    def test_examples(self):
        self.same(moved_on(THREE, 0, 1), ((1, 1), (0, -1), (4, -2), (5, -1), (2, 2), (3, 1), (7, -1), (6, 1)))

    def test_renamed_by_each_order(self):
        for pattern in GREAT_PATTERNS:
            for order in list(permutations(range(len(pattern) // 4)))[:8]:
                other = renamed(pattern, order)
                names = [4 * order[end // 4] + end % 4 for end in range(len(pattern))]
                for end, (to, shift) in enumerate(pattern):
                    self.same(other[names[end]], (names[to], shift))
                self.check_map(pattern, other, names)
        for order in permutations(range(3)):
            back = tuple(order.index(c) for c in range(3))
            self.same(renamed(renamed(FOUR, order), back), FOUR)
        self.same(renamed(THREE, (1, 0)), ((6, 1), (7, 0), (3, -1), (2, 1), (5, 1), (4, -1), (0, -1), (1, 0)))
        self.same(renamed(TWO, (0,)), TWO)

    def test_spun(self):
        for pattern in FEW:
            for crossing in range(len(pattern) // 4):
                for quarters in (0, 1, 2, 3, 4, 5, 11, 10 ** 30 + 1):
                    other = spun(pattern, crossing, quarters)
                    names = list(range(len(pattern)))
                    for p in range(4):
                        names[4 * crossing + p] = 4 * crossing + (p + quarters) % 4
                    for end, (to, shift) in enumerate(pattern):
                        self.same(other[names[end]], (names[to], shift))
                    self.same(spun(pattern, crossing, quarters + 4), other)
                    self.same(spun(other, crossing, 4 - quarters % 4), pattern)
                self.check_map(pattern, spun(pattern, crossing, 1), [
                    end - end % 4 + (end + 1) % 4 if end // 4 == crossing else end for end in range(len(pattern))])
        self.same(spun(TWO, 0, 1), ((3, 1), (2, 1), (1, -1), (0, -1)))
        self.same(spun(THREE, 1, 0), THREE)

    def test_moved_on(self):
        for pattern in SOME:
            for crossing in range(len(pattern) // 4):
                for by in (0, 1, -1, 7, -GREAT, 10 ** 29):
                    other = moved_on(pattern, crossing, by)
                    for end, (to, shift) in enumerate(pattern):
                        at_it = (end // 4 == crossing, to // 4 == crossing)
                        wanted = shift - by if at_it == (True, False) else shift
                        wanted = shift + by if at_it == (False, True) else wanted
                        self.same(other[end], (to, wanted))
                    self.same(moved_on(other, crossing, -by), pattern)
                self.check_map(pattern, moved_on(pattern, crossing, 2), range(len(pattern)))
        self.same(moved_on(LEAF, 0, 5), LEAF)
        self.same(moved_on(THREE, 1, 1), ((1, 1), (0, -1), (4, 0), (5, 1), (2, 0), (3, -1), (7, -1), (6, 1)))

    def test_refusals(self):
        bad = (*NO_INTEGERS, -1, GREAT)
        no_orders = (*NO_INTEGERS, 0, (0,), (0, 0), (1, 1), (1, 2), (0, 1, 2), [0, 1], (0, True), (False, 1), (-1, 0),
                     (0, None), ((0,), (1,)), "01", (0, 1, 1), (0, "1"))
        no_orders = tuple(order for order in no_orders if repr(order) not in ("(1, 0)", "(0, 1)"))
        self.refuses_in_order(renamed, ("pattern", "order"), (THREE, (1, 0)), ((), no_orders))
        self.refuses_in_order(spun, ("pattern", "crossing", "quarters"), (THREE, 1, 2), ((), (*bad, 2), (*NO_INTEGERS, -1)))
        self.refuses_in_order(moved_on, ("pattern", "crossing", "by"), (THREE, 1, -2), ((), (*bad, 2), NO_INTEGERS))
        self.not_usable("crossing", spun, TWO, 1, 1)


if __name__ == "__main__":
    unittest.main()
