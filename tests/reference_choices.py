"""Slow and plain second versions for manners, prices and layings up to turning: all layings are tried.

Nothing here is imported from the package.
"""

from fractions import Fraction
from functools import lru_cache
from math import isqrt

import reference
import reference_loops
import reference_rows

MANNERS = ("all", "few", "one")


@lru_cache(maxsize=None)
def counted(ends):
    """The dict of the plain layings all of whose loops go round, with the numbers of their loops."""
    return {laying: len(windings) for laying, windings in reference_loops.all_windings(ends, "DL") if 0 not in windings}


@lru_cache(maxsize=None)
def layings(ends, manner):
    """All layings of the manner, ascending."""
    if manner == "one":
        return tuple(laying for laying, windings in reference_loops.all_windings(ends, "DL") if len(windings) == 1)
    fewest = min(counted(ends).values())
    return tuple(laying for laying, many in counted(ends).items() if manner == "all" or many == fewest)


def price(prices, laying):
    return sum(pair["DL".index(letter)] for pair, letter in zip(prices, laying))


def least(ends, manner, prices):
    return min(price(prices, laying) for laying in layings(ends, manner))


def cheapest(ends, manner, prices):
    """The set of all cheapest layings of the manner."""
    lowest = least(ends, manner, prices)
    return {laying for laying in layings(ends, manner) if price(prices, laying) == lowest}


def cheapest_row(ends, prices):
    numbers = [0] * (reference.cut(ends) + 1)
    for laying in cheapest(ends, "all", prices):
        numbers[counted(ends)[laying] // 2] += 1
    return reference_rows.row(numbers)


def with_letter(laying, place, letter):
    return laying[:place] + letter + laying[place + 1:]


def exchanges(ends, manner, laying):
    """All exchanges within the manner, ascending."""
    found = []
    for out, first in enumerate(laying):
        for into, second in enumerate(laying):
            if first == "D" and second == "L":
                if with_letter(with_letter(laying, out, "L"), into, "D") in layings(ends, manner):
                    found.append((out, into))
    return tuple(found)


def turns(laying, sectors):
    """The laying of a drawing, turned by each number of sectors."""
    size = len(laying) // sectors
    return [laying[size * k:] + laying[:size * k] for k in range(sectors)]


def lots(those, sectors):
    """How many lots these layings of a drawing make."""
    return len({min(turns(laying, sectors)) for laying in those})


def orders_keeping(laying, sectors):
    """The orders whose turnings keep the laying."""
    kept = turns(laying, sectors)
    return [order for order in range(1, sectors + 1) if sectors % order == 0 and kept[sectors // order % sectors] == laying]


def root(value):
    """The number whose square this fraction is, or None."""
    value = Fraction(value)
    number = isqrt(value.numerator)
    return number if value.denominator == 1 and number * number == value else None


def through(places, heights):
    """The numbers of the polynomial with these heights, as fractions."""
    found = [Fraction(0)] * len(places)
    for place, height in zip(places, heights):
        part = [Fraction(height)]
        for other in places:
            if other != place:
                longer = [Fraction(0)] * (len(part) + 1)
                for k, number in enumerate(part):
                    longer[k] -= number * other / (place - other)
                    longer[k + 1] += number / (place - other)
                part = longer
        found = [a + b for a, b in zip(found, part)]
    while found and found[-1] == 0:
        found.pop()
    return found


def five(row, first):
    """The five counts that (G9) gives."""
    if row[0]:
        return tuple(reference_rows.turned(row, m)[0] for m in (1, 2, 3, 4, 6))
    return tuple(m * first * reference_rows.turned(row[1:], m)[0] // row[1] for m in (1, 2, 3, 4, 6))


def heard(counts):
    """What [70] asks for, by the values at 0 to 4."""
    one, two, three, four, six = counts
    odd = [one, root(Fraction(six * one, two * three)), root(Fraction(four, two)), root(Fraction(three, one)),
           Fraction(two, one)]
    even = [odd[1], root(Fraction(four, 2 * two)), root(Fraction(three, 3 * one)), Fraction(two, 2 * one)]
    for word, heights, before in (("odd", odd, ()), ("even", even, (0,))):
        if None not in heights:
            numbers = through(range(5 - len(heights), 5), heights)
            if all(number.denominator == 1 and number >= 1 for number in numbers):
                return (word, before + tuple(int(number) for number in numbers), one)
    return None
