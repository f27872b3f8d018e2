"""The roots of rows all of whose roots are real."""

from threadsround.kinds import is_count, is_quotient
from threadsround.needs import need
from threadsround.rows import row_moved, sign_changes


def stretched(row, by):
    """The row whose roots are by times those of row, by above 0."""
    numbers = []
    factor = 1
    for number in reversed(row):
        numbers.append(number * factor)
        factor = factor * by
    return tuple(reversed(numbers))


def many_above(row, whole):
    """How many roots are above an integer."""
    # By Descartes, whose rule of signs is exact where all roots are real.
    return sign_changes(row_moved(row, whole))


def many_from(row, whole):
    """How many roots are at least an integer."""
    moved = row_moved(row, whole)
    beginning = [k for k, number in enumerate(moved) if number != 0]
    return beginning[0] + sign_changes(moved)


def roots_above(row, value):
    """How many roots are above value, each as often as it is one."""
    need(is_quotient(value), "value")
    return many_above(stretched(row, value[1]), value[0])


def floor_of(row, many):
    """The greatest integer such that many roots or more are at least it."""
    low = -1
    while many_from(row, low) < many:
        low = 2 * low
    high = 1
    while many_from(row, high) >= many:
        high = 2 * high
    while high - low > 1:
        between = (low + high) // 2
        if many_from(row, between) >= many:
            low = between
        else:
            high = between
    return low


def root_floors(row, bottom):
    """For each root the greatest integer k for which k / bottom is at most the root, ascending."""
    need(is_count(bottom), "bottom")
    wide = stretched(row, bottom)
    return tuple([floor_of(wide, many) for many in reversed(range(1, len(row)))])


def is_rising(row):
    """Whether each number of row is as great, by those beside it, as for a row with real roots alone."""
    degree = len(row) - 1
    for j in range(1, degree):
        beside = row[j - 1] * row[j + 1] * (j + 1) * (degree - j + 1)
        if row[j] * row[j] * j * (degree - j) < beside:
            return False
    return True
