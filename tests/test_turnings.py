import unittest

import reference
from samples import FEW, FOUR, GREAT, LEAF, NO_INTEGERS, ONES, SOME, THREE, TWO, TWOS, StrictCase
from test_alikes import disguised
from threadsround.alikes import are_alike, writing_from
from threadsround.drawings import drawn
from threadsround.patternchecker import is_pattern
from threadsround.turnings import greatest_turning, sector_for, turning_map, turnings_of


class TurningsTest(StrictCase):
    def test_greatest_turning(self):
        for pattern in SOME:
            many = len(reference.alike_maps(pattern, pattern))
            self.same(greatest_turning(pattern), many)
            self.same(turnings_of(pattern), tuple(d for d in range(1, many + 1) if many % d == 0))
        self.same([greatest_turning(pattern) for pattern in (TWO, THREE, FOUR, LEAF)], [1, 1, 1, 1])

    def test_of_drawings(self):
        for pattern in FEW:
            for sectors in (1, 2, 3, 4, 6):
                if sectors * len(pattern) > 72:
                    continue
                whole = drawn(pattern, sectors)
                self.same(greatest_turning(whole), sectors * greatest_turning(pattern))
                self.same(turnings_of(whole)[-1], greatest_turning(whole))
        self.same(turnings_of(drawn(TWO, 36)), (1, 2, 3, 4, 6, 9, 12, 18, 36))
        self.same(turnings_of(pattern=drawn(LEAF, 8)), (1, 2, 4, 8))

    def test_just_the_divisors_are_numbers_of_sectors(self):
        drawings = [reference.drawing(pattern, 2) for pattern in ONES]
        seen = set()
        for pattern in TWOS[::7]:
            wanted = any(reference.alike_maps(whole, pattern) for whole in drawings)
            self.assertEqual(2 in turnings_of(pattern), wanted)
            seen.add(wanted)
        self.assertEqual(seen, {True, False})

    def test_turning_map(self):
        for pattern in FEW:
            for sectors in (1, 2, 4, 6):
                if sectors * len(pattern) > 72:
                    continue
                whole = disguised(drawn(pattern, sectors), 1)
                middle = reference.faces(whole)[reference.totals(whole).index(1)]
                for order in turnings_of(whole):
                    ends = turning_map(whole, order)
                    self.assertTrue(reference.is_alike_map(whole, whole, ends))
                    self.same(ends[middle[0]], middle[len(middle) // order % len(middle)])
                    around, many = ends, 1
                    while around != tuple(range(len(whole))):
                        around, many = tuple(ends[e] for e in around), many + 1
                    self.assertEqual(many, order)
            self.same(turning_map(pattern, 1), tuple(range(len(pattern))))
        self.same(turning_map(drawn(TWO, 3), 3), tuple(range(4, 12)) + tuple(range(4)))

    def test_sector_for(self):
        for pattern in FEW:
            for sectors in (1, 2, 3, 4):
                if sectors * len(pattern) > 72:
                    continue
                for whole in (drawn(pattern, sectors), disguised(drawn(pattern, sectors), 2)):
                    for order in turnings_of(whole):
                        part = sector_for(whole, order)
                        self.same(is_pattern(part), True)
                        self.assertEqual(len(part) * order, len(whole))
                        self.assertTrue(reference.alike_maps(reference.drawing(part, order), whole))
                    self.same(are_alike(sector_for(whole, sectors), pattern), True)
        self.same(are_alike(sector_for(drawn(FOUR, 12), 12), FOUR), True)
        self.same(are_alike(sector_for(drawn(THREE, 12), 4), drawn(THREE, 3)), True)

    def test_of_a_drawing_whose_sectors_have_far_shifts(self):
        far = reference.moved_crossings(drawn(THREE, 4), [100, -3, 17, 0, 5, 5, -60, 1])
        self.same(greatest_turning(far), 4)
        part = sector_for(far, 4)
        self.same(writing_from(part, reference.faces(part)[reference.totals(part).index(1)][0]),
                  writing_from(THREE, 0))

    def test_refusals(self):
        whole = drawn(TWO, 6)
        bad = (*NO_INTEGERS, 0, -1, -2, 4, 5, 12, 36, GREAT)
        for function in (turning_map, sector_for):
            self.refuses_in_order(function, ("pattern", "sectors"), (whole, 3), ((), bad))
            self.not_usable("sectors", function, THREE, 2)
            self.not_usable("sectors", function, THREE, True)


if __name__ == "__main__":
    unittest.main()
