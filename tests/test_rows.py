import unittest
from fractions import Fraction

from samples import GREAT, NO_INTEGERS, StrictCase
from threadsround.rows import row_at, row_moved, row_of, row_plus, row_times, sign_changes

ROWS = [(), (1,), (-1,), (0, 1), (1, 1), (0, 2, 1), (0, -2, -1), (3, 0, 0, -5), (-1, 2, -3, 4), (GREAT, 0, -GREAT),
        (0, 0, 0, 0, 0, 0, 0, 7)]
NO_ROWS = (True, None, 0, 1, "", "1", [], [1], (0,), (1, 0), (True,), (1, True), ((1,),), (None,), ("1",))
NO_TUPLES_OF_INTEGERS = (True, None, 0, "", "0", [], [1], (True,), (1, False), ((1,),), (None,), (0, "1"))


def value(row, at):
    return sum((number * at ** k for k, number in enumerate(row)), Fraction(0))


def trimmed(numbers):
    numbers = list(numbers)
    while numbers and numbers[-1] == 0:
        numbers.pop()
    return tuple(numbers)


class RowsTest(StrictCase):
    def test_examples(self):
        got = (row_times((1, 1), (0, 2, 1)), row_at((1, 1), (1, 2)), row_moved((0, 2, 1), -1),
               sign_changes((-1, 0, 1, 2, -5)))
        self.same(got, ((0, 2, 3, 1), (3, 2), (-1, 0, 1), 2))

    def test_row_of(self):
        for numbers, wanted in (((), ()), ((0,), ()), ((0, 0, 0), ()), ((1, 0), (1,)), ((0, 1, 0, 0), (0, 1)),
                                ((0, -1), (0, -1)), ((5, 0, 6), (5, 0, 6)), ((GREAT, 0), (GREAT,))):
            self.same(row_of(numbers), wanted)
        self.refuses_in_order(row_of, ("numbers",), ((1, 0),), (NO_TUPLES_OF_INTEGERS,))

    def test_sums_and_products(self):
        for one in ROWS:
            for other in ROWS:
                size = max(len(one), len(other))
                total = [sum(row[k] for row in (one, other) if k < len(row)) for k in range(size)]
                self.same(row_plus(one, other), trimmed(total))
                product = [0] * (len(one) + len(other))
                for j, left in enumerate(one):
                    for k, right in enumerate(other):
                        product[j + k] += left * right
                self.same(row_times(one, other), trimmed(product))
        self.same(row_plus((1, 2, 3), (4, -2, -3)), (5,))
        self.same(row_plus((1, 2), (-1, -2)), ())
        self.same(row_times((), (1, 2)), ())

    def test_values(self):
        for row in ROWS:
            for at in (Fraction(0), Fraction(1), Fraction(-1), Fraction(1, 2), Fraction(-7, 3), Fraction(GREAT, 2)):
                wanted = value(row, at)
                self.same(row_at(row, (at.numerator, at.denominator)), (wanted.numerator, wanted.denominator))

    def test_moved(self):
        for row in ROWS:
            for by in (-GREAT, -3, -1, 0, 1, 2, 10):
                moved = row_moved(row, by)
                self.assertEqual(len(moved), len(row))
                for at in range(-4, 5):
                    self.assertEqual(value(moved, at), value(row, at + by))
                self.same(row_moved(moved, -by), row)

    def test_sign_changes(self):
        for row, wanted in (((), 0), ((1,), 0), ((-1,), 0), ((1, 1), 0), ((1, -1), 1), ((-1, 1), 1), ((1, 0, -1), 1),
                            ((1, 0, 0, 1), 0), ((0, 0, -1), 0), ((1, -1, 1, -1), 3), ((-1, 0, -1, 0, 1), 1),
                            ((0, 1, 0, -GREAT, 5), 2)):
            self.same(sign_changes(row), wanted)

    def test_refusals(self):
        for function in (row_plus, row_times):
            self.refuses_in_order(function, ("row", "other"), ((1, 1), (0, 1)), ((), NO_ROWS))
        self.refuses_in_order(row_at, ("row", "value"), ((1, 1), (1, 2)),
                              ((), (*NO_INTEGERS, (2, 4), (1, 0), (1, -1), [1, 2], (True, 1))))
        self.refuses_in_order(row_moved, ("row", "by"), ((0, 2, 1), -1), ((), NO_INTEGERS))
        self.same(sign_changes(row=(1, -1)), 1)


if __name__ == "__main__":
    unittest.main()
