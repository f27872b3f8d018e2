import unittest
from fractions import Fraction

import reference
import reference_loops
import reference_rows
from samples import FAR, FOUR, GREAT, LEAF, MANY, NO_INTEGERS, ONES, THREE, TWO, StrictCase
from threadsround.mirrors import inside_out, mirrored
from threadsround.namings import spun
from threadsround.ringrows import light_row, ring_count, ring_row
from threadsround.webs import dark_web, light_web

STRANDS = [reference_loops.strands(width, word) for width, word in
           ((3, (1, 2, 1, 2, 1, 2, 1)), (4, (1, 2, 3, 3, 2, 1, 2)), (7, (1, 3, 5, 2, 4, 6)), (8, (7, 6, 5, 4, 3, 2, 1)))]


class RingRowsTest(StrictCase):
    def test_examples(self):
        self.same((ring_row(FOUR), light_row(FOUR)), ((0, 2, 1), (2, 1)))
        self.same((ring_count(FOUR, 2), ring_count(FOUR, 3), ring_count(FOUR, 4)), (2, 0, 1))
        self.same((ring_row(TWO), ring_row(LEAF), light_row(LEAF)), ((0, 1), (1,), (1,)))
        self.same((ring_row(THREE), light_row(THREE)), ((1, 1), (1, 1)))

    def test_beside_all_plain_layings(self):
        for pattern in [*MANY, *ONES, *STRANDS]:
            row = reference_rows.ring_numbers(pattern)
            cut = reference.cut(pattern)
            self.same(ring_row(pattern), row)
            self.same(light_row(pattern), row if cut % 2 else row[1:])
            for many in range(1, cut + 4):
                wanted = row[many // 2] if many <= cut and (cut - many) % 2 == 0 else 0
                self.same(ring_count(pattern, many), wanted)
                self.assertEqual(wanted > 0, many <= cut and (cut - many) % 2 == 0)

    def test_the_light_web_at_several_values(self):
        for pattern in MANY[:-4:2] + STRANDS:
            web = light_web(pattern)
            self.same(web, reference_rows.web(pattern, "light"))
            dark = dark_web(pattern)
            for z in (Fraction(1), Fraction(-1), Fraction(3), Fraction(-5, 2), Fraction(100, 7)):
                y = 2 - z - 1 / z
                light = reference_rows.determinant(reference_rows.table(web, z))
                self.assertEqual(reference_rows.value_at(light_row(pattern), y), light)
                value = reference_rows.determinant(reference_rows.table(dark, z))
                self.assertEqual(reference_rows.value_at(ring_row(pattern), y), value)

    def test_drawings(self):
        for pattern in (TWO, THREE, FOUR, LEAF, *MANY[30:60:5]):
            for sectors in (2, 3):
                whole = reference.drawing(pattern, sectors)
                if len(whole) <= 32:
                    self.same(ring_row(whole), reference_rows.ring_numbers(whole))
        self.same(ring_row(reference.drawing(THREE, 6)), (320, 1))
        self.same(ring_row(reference.drawing(FOUR, 4)), (0, 192, 1))

    def test_many_strands(self):
        wide = reference_loops.strands(13, tuple(range(1, 13)))
        # Neighbouring strands cross once: their rows are those of Pascal's slanting lines.
        self.same(ring_row(wide), (1, 21, 70, 84, 45, 11, 1))
        self.same(ring_row(reference_loops.strands(6, (1, 2, 3, 4, 5))), (0, 3, 4, 1))
        self.same([ring_count(wide, many) for many in (1, 2, 12, 13, 14, 15, 36)], [1, 0, 0, 1, 0, 0, 0])

    def test_sectors_far_away_and_other_names(self):
        self.same([ring_row(pattern) for pattern in FAR[:2]], [(1, 1), (0, 2, 1)])
        for pattern in FAR + MANY[:100:9]:
            row = reference_rows.ring_numbers(pattern)
            for other in (mirrored(pattern), inside_out(pattern), spun(pattern, 0, 1)):
                self.same(ring_row(other), row)
        self.same(ring_row(pattern=FOUR), (0, 2, 1))
        self.same(light_row(pattern=FOUR), (2, 1))

    def test_refusals(self):
        self.refuses_in_order(ring_count, ("pattern", "many"), (FOUR, 2), ((), (*NO_INTEGERS, 0, -1, -GREAT)))
        self.same((ring_count(FOUR, GREAT), ring_count(FOUR, GREAT + 1)), (0, 0))


if __name__ == "__main__":
    unittest.main()
