import random
import unittest
from fractions import Fraction
from itertools import product
from math import floor

import reference_rows
from samples import GREAT, MANY, NO_INTEGERS, StrictCase
from test_quotients import NO_QUOTIENTS
from threadsround.roots import is_rising, root_floors, roots_above


def row_with(roots, factor=1):
    """A row with these fractions as its roots."""
    found = (factor,)
    for root in roots:
        found = reference_rows.times(found, (-root.numerator, root.denominator))
    return found


KNOWN = [(), (0,), (0, 0, 0), (1,), (-1, -1), (-1, 0, 1), (-2, -2, -2), (5, 5, 5, 5), (-7, 0, 0, 3), (-100, -99, -1),
         ("-1/2",), ("1/3", "1/3"), ("-1/3", "-2/3", "-3/3"), ("-22/7", "22/7", 0), (10 ** 30, -10 ** 30), (1, 2, 3, 4, 5, 6, 7),
         (-1, -1, -2, -2, -3, -3, 0), ("1/1000000007", "1/1000000009"), ("-999/998", "-998/997", "998/997")]
KNOWN = [tuple(sorted(Fraction(root) for root in roots)) for roots in KNOWN]


def rising(row):
    """The inequality of [60], as it stands there."""
    d = len(row) - 1
    return all(row[j] ** 2 * j * (d - j) >= row[j - 1] * row[j + 1] * (j + 1) * (d - j + 1) for j in range(1, d))


class RootsTest(StrictCase):
    def test_examples(self):
        self.same((roots_above((0, 2, 1), (-2, 1)), roots_above((0, 2, 1), (-5, 2))), (1, 2))
        self.same((root_floors((2, 6, 1), 10), root_floors((4, 4, 1), 1), root_floors((7,), 3)), ((-57, -4), (-2, -2), ()))
        self.same((is_rising((2, 6, 1)), is_rising((1, 1, 1)), is_rising((1, 2, 1))), (True, False, True))

    def check(self, roots, factor):
        row = row_with(roots, factor)
        values = {Fraction(0), Fraction(-7, 3), Fraction(GREAT), Fraction(-GREAT)}
        for root in roots:
            values |= {root, root + Fraction(1, 10 ** 12), root - Fraction(1, 10 ** 12), root + 1, root - 1}
        for value in values:
            self.same(roots_above(row, reference_rows.pair(value)), len([root for root in roots if root > value]))
        for bottom in (1, 2, 3, 10, 21, 10 ** 12, 10 ** 29 + 1):
            self.same(root_floors(row, bottom), tuple(sorted(floor(root * bottom) for root in roots)))

    def test_known_roots(self):
        for roots in KNOWN:
            for factor in (1, -1, 6, -10 ** 20):
                self.check(roots, factor)
        self.same(roots_above(row=(0, 2, 1), value=(0, 1)), 0)
        self.same(root_floors(row=(-2, 0, 1), bottom=1000), (-1415, 1414))

    def test_any_roots(self):
        dice = random.Random(8)
        for _ in range(60):
            many = dice.randrange(1, 8)
            roots = [Fraction(dice.randrange(-40, 10), dice.randrange(1, 7)) for _ in range(many)]
            self.check(sorted(roots[:3] + roots[1:] if many < 5 else roots), dice.choice((1, -3, 7)))

    def test_roots_that_are_no_quotients(self):
        # The golden cut's square, and its like.
        for bottom in (1, 10, 10 ** 25):
            low, high = root_floors((1, 3, 1), bottom)
            for k, sign in ((low, 1), (high, -1)):
                at = [sign * reference_rows.value_at((1, 3, 1), Fraction(x, bottom)) for x in (k, k + 1)]
                self.assertTrue(at[0] >= 0 > at[1] or at[0] > 0 >= at[1])
        self.same(roots_above((1, 3, 1), (-1, 1)), 1)

    def test_rows_of_patterns(self):
        for pattern in MANY[::3]:
            row = reference_rows.ring_numbers(pattern)
            self.same(roots_above(row, (0, 1)), 0)
            self.same(is_rising(row), True)
            self.assertTrue(all(k < 0 for k in root_floors(row, 1)) or row[0] == 0)

    def test_great_rows(self):
        roots = [Fraction(-k ** 9 * 10 ** 100, 3) for k in range(1, 8)]
        self.same(root_floors(row_with(roots), 10 ** 29), tuple(sorted(floor(root * 10 ** 29) for root in roots)))
        self.same(roots_above(row_with(roots, 10 ** 150), (-10 ** 29, 10 ** 28 + 1)), 0)

    def test_is_rising(self):
        for length in range(6):
            for numbers in product((0, 1, 2, 5, -1), repeat=length):
                if not numbers or numbers[-1]:
                    self.same(is_rising(numbers), rising(numbers))
        for row in ((), (GREAT,), (-1, GREAT), (1, 7, 21, 35, 35, 21, 7, 1), (1, 7, 21, 35, 34, 21, 7, 1), (0, 1, 0, 0, 0, 0, 0, 1),
                    (1, 1, 1, 1, 1, 1, 1, 1), (10 ** 999, 10 ** 999, 10 ** 998), (0, 0, 0, 1), (1, 6, 15, 20, 15, 6, 1)):
            self.same(is_rising(row), rising(row))
            self.same(is_rising(row=row), rising(row))
        self.same((is_rising((1, 7, 21, 35, 35, 21, 7, 1)), is_rising((4, 12, 9)), is_rising((4, 11, 9))), (True, True, False))

    def test_refusals(self):
        self.refuses_in_order(roots_above, ("row", "value"), ((0, 2, 1), (-2, 1)), ((), NO_QUOTIENTS))
        self.refuses_in_order(root_floors, ("row", "bottom"), ((0, 2, 1), 3), ((), (*NO_INTEGERS, 0, -1, -GREAT)))


if __name__ == "__main__":
    unittest.main()
