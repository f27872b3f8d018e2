"""Rows turned, and trees of drawings counted, modulo a number and for great numbers of sectors.

Modulo a row, polynomials in y are told by as many numbers as the row has roots. With 2 - y for z + 1/z the m-th power
sum z^m + 1/z^m is such a polynomial, found by doubling; 2 less it is the turn row of m, whose values at the roots of
the row are the roots of the row turned by m.
"""

from math import gcd

from threadsround.determinants import whole_determinant
from threadsround.kinds import is_count, is_integer
from threadsround.needs import need
from threadsround.ringrows import ring_row, row_through
from threadsround.trees import tree_count


def is_modulus(thing, number):
    """Whether thing is an integer of at least 2 that has no common divisor above 1 with number."""
    return is_integer(thing) and thing >= 2 and gcd(thing, number) == 1


def inverse_of(number, modulus):
    """The number that, times number, is 1 modulo modulus."""
    last, now = modulus, number % modulus
    last_times, times = 0, 1
    while now != 0:
        whole = last // now
        last, now = now, last - whole * now
        last_times, times = times, last_times - whole * times
    return last_times % modulus


def power_modulo(base, many, modulus):
    """base to the power of many, modulo modulus."""
    power = 1
    for digit in f"{many:b}":
        power = power * power % modulus
        if digit == "1":
            power = power * base % modulus
    return power


def lessened(numbers, low, modulus):
    """As many numbers as low has, for the polynomial of numbers, y to the power of so many being less that of low."""
    left = list(numbers)
    size = len(low)
    for k in reversed(range(size, len(left))):
        for j in range(size):
            left[k - size + j] = (left[k - size + j] - left[k] * low[j]) % modulus
    return left[:size]


def product_modulo(one, other, low, modulus):
    """The product of two polynomials of as many numbers as low."""
    numbers = [0] * (2 * len(low))
    for j, number in enumerate(one):
        for k, factor in enumerate(other):
            numbers[j + k] = (numbers[j + k] + number * factor) % modulus
    return lessened(numbers, low, modulus)


def less_by(numbers, others, modulus):
    """The difference of two polynomials of as many numbers."""
    return [(number - other) % modulus for number, other in zip(numbers, others)]


def turn_row_modulo(low, sectors, modulus):
    """The polynomial of the turn row of sectors."""
    size = len(low)
    two = lessened([2] + [0] * size, low, modulus)
    single = lessened([2, -1] + [0] * size, low, modulus)
    # These are the power sums of a number and of the next one.
    here, further = two, single
    for digit in f"{sectors:b}":
        between = less_by(product_modulo(here, further, low, modulus), single, modulus)
        doubled = further if digit == "1" else here
        doubled = less_by(product_modulo(doubled, doubled, low, modulus), two, modulus)
        here, further = (between, doubled) if digit == "1" else (doubled, between)
    return less_by(two, here, modulus)


def row_with_roots(lines):
    """The row, its last number 1, whose roots are the proper values of these lines of integers."""
    heights = []
    for place in range(len(lines) + 1):
        moved = [[-entry for entry in line] for line in lines]
        for k in range(len(lines)):
            moved[k][k] += place
        heights.append((whole_determinant(moved), 1))
    return row_through([(place, 1) for place in range(len(lines) + 1)], heights)


def row_modulo(row, sectors, modulus):
    """The numbers of row turned by sectors, each modulo modulus."""
    need(is_count(sectors), "sectors")
    need(is_modulus(modulus, row[-1] if row != () else 1), "modulus")
    if row == ():
        return ()
    inverse = inverse_of(row[-1], modulus)
    low = [number * inverse % modulus for number in row[:-1]]
    lines = []
    line = turn_row_modulo(low, sectors, modulus)
    for _ in low:
        lines.append(line)
        line = lessened([0] + line, low, modulus)
    last = power_modulo(row[-1], sectors, modulus)
    return tuple([number * last % modulus for number in row_with_roots(lines)])


def one_modulo(pattern, sectors, modulus):
    """The number of the trees of the drawing of sectors, modulo modulus."""
    row = ring_row(pattern)
    if row[0] != 0:
        return row_modulo(row, sectors, modulus)[0]
    need(is_count(sectors), "sectors")
    need(is_modulus(modulus, row[1]), "modulus")
    turned = row_modulo(row[1:], sectors, modulus)[0]
    return sectors * tree_count(pattern) * turned * inverse_of(row[1], modulus) % modulus
