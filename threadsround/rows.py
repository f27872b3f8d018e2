"""Rows: polynomials as tuples of integers, the number ahead of y^0 first."""

from threadsround.kinds import is_integer, is_integer_tuple, is_quotient, is_row
from threadsround.needs import need
from threadsround.quotients import plus, times


def trimmed(numbers):
    """The row of numbers, the zeros at the end left out."""
    many = len(numbers)
    while many > 0 and numbers[many - 1] == 0:
        many -= 1
    return tuple(numbers[:many])


def added(one, other):
    """The row of the sum of two rows."""
    numbers = [0] * max(len(one), len(other))
    for k, number in enumerate(one):
        numbers[k] += number
    for k, number in enumerate(other):
        numbers[k] += number
    return trimmed(numbers)


def multiplied(one, other):
    """The row of the product of two rows."""
    numbers = [0] * (len(one) + len(other))
    for j, number in enumerate(one):
        for k, factor in enumerate(other):
            numbers[j + k] += number * factor
    return trimmed(numbers)


def row_of(numbers):
    """The tuple of integers without the zeros at its end."""
    need(is_integer_tuple(numbers), "numbers")
    return trimmed(numbers)


def row_plus(row, other):
    """The sum of both rows."""
    need(is_row(other), "other")
    return added(row, other)


def row_times(row, other):
    """The product of both rows."""
    need(is_row(other), "other")
    return multiplied(row, other)


def row_at(row, value):
    """The quotient that is the value of the polynomial at y = value."""
    need(is_quotient(value), "value")
    total = (0, 1)
    for number in reversed(row):
        total = plus(times(total, value), (number, 1))
    return total


def row_moved(row, by):
    """The row of the polynomial with y + by written for y."""
    need(is_integer(by), "by")
    moved = ()
    for number in reversed(row):
        moved = added(multiplied(moved, (by, 1)), (number,))
    return moved


def sign_changes(row):
    """How many numbers, zeros left out, have another sign than the one before."""
    signs = [number > 0 for number in row if number != 0]
    return len([k for k in range(1, len(signs)) if signs[k] != signs[k - 1]])
