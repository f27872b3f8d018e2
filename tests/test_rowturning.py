import random
import unittest

import reference
import reference_rows
from reference_rows import Fraction
from samples import GREAT, LEAF, MANY, NAMED, NO_INTEGERS, StrictCase
from threadsround.ringrows import ring_row
from threadsround.rowturning import row_turned

ROWS = [(1,), (-3,), (7,), (0, 1), (1, 1), (6, 5, 1), (1, 2), (1, -2), (1, 0, 1), (0, 0, 1), (0, 0, 0, -5), (4, -4, 1), (1, 1, 1),
        (-1, 0, 2, 0, 3), (0, 2, 1), (5, 0, 0, -7), (2, 3, 5, 7, 11), (-2, 0, 0, 0, 0, 0, 0, 3), (1, 1, 1, 1, 1, 1, 1, 1),
        (0, 1, 0, -1, 0, 1, 0, -1), (10 ** 30, -10 ** 29, 3, 10 ** 28), (4, 1), (-4, 1), (0, -4, 1), (1, 21, 70, 84, 45, 11, 1)]


class RowTurningTest(StrictCase):
    def test_examples(self):
        self.same((row_turned((1, 1), 3), row_turned((6, 5, 1), 2)), ((16, 1), (252, 33, 1)))
        self.same((row_turned((1, 2), 2), row_turned((1, -2), 2), row_turned((1, 0, 1), 2)), ((9, 4), (-7, 4), (17, -2, 1)))
        self.same((row_turned((), 5), row_turned((-3,), 3)), ((), (-27,)))

    def test_beside_the_definition(self):
        for row in ROWS:
            for sectors in (1, 2, 3, 4, 5, 6, 7, 9, 12):
                self.same(row_turned(row, sectors), reference_rows.turned(row, sectors))
        for row in (ROWS[3], ROWS[5], ROWS[12], ROWS[14], ROWS[17], ROWS[21]):
            for sectors in (11, 13, 17, 24, 30, 31, 35, 36):
                self.same(row_turned(row, sectors), reference_rows.turned(row, sectors))

    def test_known_roots(self):
        turn_rows = reference_rows.turn_rows(36)
        for roots in ((-2, -3), (0, -1, -1), (4, 4, 0), (-1, -2, -3, -4, -5, -6, -7), (5, -5), (10 ** 20, -1)):
            for last in (1, -1, 2, -10 ** 9):
                row = (last,)
                for root in roots:
                    row = reference_rows.times(row, (-root, 1))
                for sectors in (1, 2, 3, 10, 29, 36):
                    wanted = (last ** sectors,)
                    for root in roots:
                        turned = reference_rows.value_at(turn_rows[sectors], root)
                        wanted = reference_rows.times(wanted, (-int(turned), 1))
                    self.same(row_turned(row, sectors), wanted)

    def test_short_rows(self):
        for sectors in range(1, 37):
            self.same(row_turned((), sectors), ())
            for number in (1, -1, 5, -GREAT):
                self.same(row_turned((number,), sectors), (number ** sectors,))
        for row in ROWS:
            self.same(row_turned(row, 1), row)
            self.same(len(row_turned(row, 36)), len(row))

    def test_one_after_the_other(self):
        for row in ROWS[::2]:
            for a in (1, 2, 3, 5):
                for b in (1, 2, 4, 6):
                    self.same(row_turned(row_turned(row, a), b), row_turned(row, a * b))

    def test_products(self):
        for one in ROWS[:16:3]:
            for other in ROWS[1:16:4]:
                for sectors in (1, 2, 3, 7, 12):
                    both = reference_rows.times(row_turned(one, sectors), row_turned(other, sectors))
                    self.same(row_turned(reference_rows.times(one, other), sectors), both)

    def test_turned_by_two(self):
        for row in ROWS:
            twice = row_turned(row, 2)
            for y in (Fraction(0), Fraction(1), Fraction(2), Fraction(-5), Fraction(7, 3), Fraction(100)):
                both = reference_rows.value_at(row, y) * reference_rows.value_at(row, 4 - y)
                self.assertEqual(reference_rows.value_at(twice, y * (4 - y)), both)

    def test_rows_of_drawings(self):
        for pattern in [*NAMED, *MANY[::7]]:
            row = reference_rows.ring_numbers(pattern)
            for sectors in (1, 2, 3):
                whole = reference.drawing(pattern, sectors)
                if len(whole) <= 32:
                    self.same(row_turned(row, sectors), reference_rows.ring_numbers(whole))
                self.same(row_turned(row, sectors), ring_row(whole))
        self.same(row_turned(reference_rows.ring_numbers(LEAF), 36), (1,))

    def test_long_numbers(self):
        dice = random.Random(2)
        row = tuple(dice.randrange(-10 ** 200, 10 ** 200) for _ in range(8))
        turned = row_turned(row, 12)
        self.same(row_turned(row_turned(row, 4), 3), turned)
        self.assertEqual(turned[-1], row[-1] ** 12)
        # At 0 all products of the turn row's own roots come together.
        self.same(row_turned(row=(10 ** 999 + 7, 1), sectors=2), ((10 ** 999 + 7) ** 2 + 4 * (10 ** 999 + 7), 1))
        self.same(row_turned((10 ** 30, 10 ** 29 + 1, -10 ** 28), 36), reference_rows.turned((10 ** 30, 10 ** 29 + 1, -10 ** 28), 36))

    def test_refusals(self):
        for row in ((), (1, 1), (5,)):
            self.refuses_in_order(row_turned, ("row", "sectors"), (row, 2), ((), (*NO_INTEGERS, 0, -1, -GREAT)))


if __name__ == "__main__":
    unittest.main()
