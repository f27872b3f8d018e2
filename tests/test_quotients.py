import unittest
from fractions import Fraction

from samples import GREAT, NO_INTEGERS, StrictCase
from threadsround.quotients import is_less, minus, over, plus, quotient_of, times

NUMBERS = [Fraction(top, bottom) for top in (-7, -6, -1, 0, 1, 2, 4, 9) for bottom in (1, 2, 3, 8)]
NUMBERS += [Fraction(GREAT, 3), Fraction(-5, GREAT), Fraction(10 ** 29 + 1, 10 ** 29 - 3)]
NO_QUOTIENTS = (*NO_INTEGERS, 1, (2, 4), (1, 0), (0, 2), (1, -2), (1, 2, 3), [1, 2], (True, 2), (1, True))


def pair(number):
    return (number.numerator, number.denominator)


class QuotientsTest(StrictCase):
    def test_examples(self):
        got = (quotient_of(6, -4), over((1, 2), (-1, 3)), is_less((-3, 2), (-1, 1)))
        self.same(got, ((-3, 2), (-3, 2), True))

    def test_quotient_of(self):
        for top in (-12, -1, 0, 1, 6, 35, GREAT, -6 * GREAT):
            for bottom in (-10, -1, 1, 4, 15, GREAT, -4 * GREAT):
                self.same(quotient_of(top, bottom), pair(Fraction(top, bottom)))
        self.same(quotient_of(0, -5), (0, 1))

    def test_arithmetic(self):
        for one in NUMBERS:
            for other in NUMBERS:
                mine, its = pair(one), pair(other)
                self.same(plus(mine, its), pair(one + other))
                self.same(minus(mine, its), pair(one - other))
                self.same(times(mine, its), pair(one * other))
                self.same(is_less(mine, its), one < other)
                if other:
                    self.same(over(mine, its), pair(one / other))

    def test_refusals(self):
        no_integers = NO_INTEGERS
        self.refuses_in_order(quotient_of, ("top", "bottom"), (6, 4), (no_integers, (*no_integers, 0)))
        for function in (plus, minus, times, is_less):
            self.refuses_in_order(function, ("one", "other"), ((1, 2), (0, 1)), (NO_QUOTIENTS, NO_QUOTIENTS))
        self.refuses_in_order(over, ("one", "other"), ((1, 2), (-1, 3)), (NO_QUOTIENTS, (*NO_QUOTIENTS, (0, 1))))
        self.not_usable("top", quotient_of, True, 0)
        self.not_usable("bottom", quotient_of, 1, 0)
        self.not_usable("bottom", quotient_of, 0, False)
        self.not_usable("one", over, (2, 2), (0, 1))


if __name__ == "__main__":
    unittest.main()
