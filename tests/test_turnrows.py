import unittest
from fractions import Fraction

import reference_rows
from samples import GREAT, NO_INTEGERS, StrictCase
from test_quotients import NO_QUOTIENTS
from threadsround.turnrows import turn_row, turned_value

VALUES = [Fraction(x) for x in (0, 1, -1, 2, 4, "-1/2", "7/3", "-1000/999", 10 ** 29 + 1, -10 ** 29)]
VALUES += [Fraction(10 ** 29 + 1, 10 ** 28 + 9)]


class TurnRowsTest(StrictCase):
    def test_examples(self):
        self.same((turn_row(0), turn_row(2), turn_row(3)), ((), (0, 4, -1), (0, 9, -6, 1)))
        self.same(turned_value((-1, 2), 2), (-9, 4))

    def test_rows(self):
        rows = reference_rows.turn_rows(36)
        for many, row in enumerate(rows):
            self.same(turn_row(many), row)
            self.same(turn_row(many=many), row)
            if many:
                # Its degree is many, and it begins with 0 and the square of its number.
                self.assertEqual((len(row) - 1, row[0], row[1], abs(row[-1])), (many, 0, many * many, 1))

    def test_values(self):
        rows = reference_rows.turn_rows(36)
        for value in VALUES:
            for many in (0, 1, 2, 3, 5, 12, 36):
                wanted = reference_rows.pair(reference_rows.value_at(rows[many], value))
                self.same(turned_value(reference_rows.pair(value), many), wanted)
                self.same(turned_value(value=reference_rows.pair(value), many=many), wanted)

    def test_the_sums_of_powers(self):
        for a in (Fraction(1), Fraction(-1), Fraction(2), Fraction(-3, 7), Fraction(10 ** 14, 3)):
            for many in (0, 1, 2, 7, 36):
                value = reference_rows.pair(2 - a - 1 / a)
                self.same(turned_value(value, many), reference_rows.pair(2 - a ** many - a ** -many))

    def test_one_after_the_other(self):
        for value in VALUES[:8]:
            for a in (0, 1, 2, 3, 5):
                for b in (0, 1, 2, 4, 7):
                    once = turned_value(reference_rows.pair(value), b)
                    self.same(turned_value(once, a), turned_value(reference_rows.pair(value), a * b))

    def test_refusals(self):
        no_numbers = (*NO_INTEGERS, -1, -GREAT)
        self.refuses_in_order(turn_row, ("many",), (3,), (no_numbers,))
        self.refuses_in_order(turned_value, ("value", "many"), ((-1, 2), 2), (NO_QUOTIENTS, no_numbers))


if __name__ == "__main__":
    unittest.main()
