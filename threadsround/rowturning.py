"""Rows that are turned.

With 2 - z - 1/z written for y, a row of degree d has 2 d roots z, each together with its inverse. The row turned by m
is the one that has their m-th powers. Symmetric numbers here are the sums of the products of so many of these roots,
times the row's last number; power sums of number k are the sums of the k-th powers, times the k-th power of that
number. All of these are integers.
"""

from math import comb

from threadsround.kinds import is_count
from threadsround.needs import need
from threadsround.quotients import whole_power


def share_of(number, j, degree, k):
    """What the number ahead of y^j adds to the symmetric number k."""
    return number * comb(2 * j, k - degree + j) if k - degree + j >= 0 else 0


def symmetric_of(row):
    """The symmetric numbers of the roots z of row, from none of them to all."""
    degree = len(row) - 1
    return [sum([share_of(number, j, degree, k) for j, number in enumerate(row)]) for k in range(2 * degree + 1)]


def row_by_symmetric(symmetric):
    """The row of which these are the first symmetric numbers, up to its degree."""
    degree = len(symmetric) - 1
    row = [0] * len(symmetric)
    for k, number in enumerate(symmetric):
        row[degree - k] = number - sum([share_of(row[j], j, degree, k) for j in range(degree - k + 1, degree + 1)])
    return tuple(row)


def products_of(parts, sums, k):
    """The sum of the products of part i and sum k - i, for all i from 1 to k - 1 that parts have."""
    return sum([parts[i] * sums[k - i] for i in range(1, min(k, len(parts)))])


def sums_of(symmetric, most):
    """The power sums from number 0, which is not used, to number most."""
    # By Newton; the signs and powers that his rule asks for are put into the parts.
    parts = [0] + [symmetric[i] * whole_power(-symmetric[0], i - 1) for i in range(1, len(symmetric))]
    sums = [0]
    for k in range(1, most + 1):
        alone = k * parts[k] if k < len(parts) else 0
        sums.append(alone + products_of(parts, sums, k))
    return sums


def symmetric_by(sums, last):
    """The symmetric numbers told by these power sums, number 0 among them, for a row with this last number."""
    parts = [0]
    for k in range(1, len(sums)):
        parts.append((sums[k] - products_of(parts, sums, k)) // k)
    return [last] + [parts[k] // whole_power(-last, k - 1) for k in range(1, len(sums))]


def turned_once(row, sectors):
    """The row, not (), turned by sectors, worked out at one go."""
    sums = sums_of(symmetric_of(row), (len(row) - 1) * sectors)
    return row_by_symmetric(symmetric_by(sums[::sectors], whole_power(row[-1], sectors)))


def prime_factors(many):
    """The prime factors of many, each as often as it is one, the greatest first."""
    factors = []
    left = many
    factor = 2
    while left > 1:
        while left % factor == 0:
            factors.append(factor)
            left = left // factor
        factor += 1
    return list(reversed(factors))


def row_turned(row, sectors):
    """The row turned by sectors."""
    need(is_count(sectors), "sectors")
    if row == ():
        return ()
    turned = row
    # Turned by one factor after the other, the numbers on the way stay shorter than at one go.
    for factor in prime_factors(sectors):
        turned = turned_once(turned, factor)
    return turned
