"""Arithmetic with quotients (top, bottom)."""

from math import gcd

from threadsround.kinds import is_integer, is_quotient
from threadsround.needs import need


def lowest(top, bottom):
    """The quotient for top / bottom, bottom not 0."""
    common = gcd(top, bottom)
    if bottom < 0:
        common = -common
    return (top // common, bottom // common)


def whole_power(base, many):
    """base to the power of many, a number."""
    power = 1
    for _ in range(many):
        power = power * base
    return power


def power_of(value, many):
    """The quotient of value to the power of many, an integer; value is not 0."""
    top, bottom = value
    if many < 0:
        return lowest(whole_power(bottom, -many), whole_power(top, -many))
    return lowest(whole_power(top, many), whole_power(bottom, many))


def need_two(one, other):
    """Refuse the first one of these parameters that is no quotient."""
    need(is_quotient(one), "one")
    need(is_quotient(other), "other")


def quotient_of(top, bottom):
    """The quotient that stands for top / bottom."""
    need(is_integer(top), "top")
    need(is_integer(bottom) and bottom != 0, "bottom")
    return lowest(top, bottom)


def plus(one, other):
    """The quotient of one + other."""
    need_two(one, other)
    return lowest(one[0] * other[1] + other[0] * one[1], one[1] * other[1])


def minus(one, other):
    """The quotient of one - other."""
    need_two(one, other)
    return lowest(one[0] * other[1] - other[0] * one[1], one[1] * other[1])


def times(one, other):
    """The quotient of one * other."""
    need_two(one, other)
    return lowest(one[0] * other[0], one[1] * other[1])


def over(one, other):
    """The quotient of one / other, other not (0, 1)."""
    need_two(one, other)
    need(other[0] != 0, "other")
    return lowest(one[0] * other[1], one[1] * other[0])


def is_less(one, other):
    """Whether one is less than other."""
    need_two(one, other)
    return one[0] * other[1] < other[0] * one[1]
