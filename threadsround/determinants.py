"""Determinants, of quotients and of integers."""

from math import lcm

from threadsround.kinds import is_quotient
from threadsround.needs import need
from threadsround.quotients import lowest
from threadsround.tables import table_of


def is_square(thing):
    """Whether thing is a tuple of tuples, each of as many quotients as there are tuples."""
    if not isinstance(thing, tuple):
        return False
    if not all([isinstance(line, tuple) and len(line) == len(thing) for line in thing]):
        return False
    return all([is_quotient(entry) for line in thing for entry in line])


def whole_determinant(lines):
    """The determinant of lists of integers."""
    rows = [list(line) for line in lines]
    sign = 1
    last = 1
    for k in range(len(rows)):
        found = [j for j in range(k, len(rows)) if rows[j][k] != 0]
        if found == []:
            return 0
        if found[0] != k:
            rows[k], rows[found[0]] = rows[found[0]], rows[k]
            sign = -sign
        # All entries stay minors of the lines, so the divisions leave no remainder.
        for j in range(k + 1, len(rows)):
            for i in range(k + 1, len(rows)):
                rows[j][i] = (rows[j][i] * rows[k][k] - rows[j][k] * rows[k][i]) // last
        last = rows[k][k]
    return sign * last


def common_bottom(line):
    """The least common multiple of the bottoms of these quotients."""
    common = 1
    for _, bottom in line:
        common = lcm(common, bottom)
    return common


def determinant(lines):
    """The determinant of a tuple of some tuples of as many quotients."""
    need(is_square(lines), "lines")
    whole = []
    scale = 1
    for line in lines:
        common = common_bottom(line)
        whole.append([top * (common // bottom) for top, bottom in line])
        scale = scale * common
    return lowest(whole_determinant(whole), scale)


def web_value(web, value):
    """The determinant of the table of web at value."""
    return determinant(table_of(web, value))
