"""Slow and plain second versions for webs, tables, ring rows and turned rows, with fractions.

Nothing here is imported from the package.
"""

from fractions import Fraction
from itertools import combinations

import reference
import reference_loops


def pair(value):
    """A fraction as a quotient."""
    value = Fraction(value)
    return (value.numerator, value.denominator)


def row(numbers):
    numbers = list(numbers)
    while numbers and numbers[-1] == 0:
        numbers.pop()
    return tuple(numbers)


def times(one, other):
    found = [0] * (len(one) + len(other))
    for j, a in enumerate(one):
        for k, b in enumerate(other):
            found[j + k] += a * b
    return row(found)


def value_at(numbers, y):
    return sum(number * Fraction(y) ** k for k, number in enumerate(numbers))


def lag(ends, corner):
    """The sum of the shifts of the walk from the first corner of its face."""
    here, total = min(next(face for face in reference.faces(ends) if corner in face)), 0
    while here != corner:
        total += ends[here][1]
        here = reference.corner_walk(ends, here)
    return total


def web(ends, colour):
    sums = reference.totals(ends)
    places = [k for k, told in enumerate(reference.colours(ends)) if told == colour]
    firm = [places.index(k) for k in places if sums[k] in (1, -1)]
    ties = []
    for c in range(len(ends) // 4):
        one, other = sorted(reference.letter_corners(ends, c, "D" if colour == "dark" else "L"))
        ties.append((places.index(reference.face_number(ends, one)), places.index(reference.face_number(ends, other)),
                     lag(ends, one) - lag(ends, other)))
    return (tuple(places), tuple(firm), tuple(ties))


def is_web(thing):
    if type(thing) is not tuple or len(thing) != 3 or any(type(part) is not tuple for part in thing):
        return False
    places, firm, ties = thing
    for numbers in (places, firm):
        if any(type(x) is not int or x < 0 for x in numbers) or list(numbers) != sorted(set(numbers)):
            return False
    if not places or any(x >= len(places) for x in firm):
        return False
    for tie in ties:
        if type(tie) is not tuple or [type(x) for x in tie] != [int] * 3:
            return False
        if not (0 <= tie[0] < len(places) and 0 <= tie[1] < len(places)):
            return False
    return True


def table(thing, z):
    """The lines of fractions."""
    places, firm, ties = thing
    z = Fraction(z)
    loose = [k for k in range(len(places)) if k not in firm]
    lines = [[Fraction(0)] * len(loose) for _ in loose]
    for f, g, s in ties:
        for a, b, x in ((f, f, 1), (g, g, 1), (f, g, -z ** s), (g, f, -z ** -s)):
            if a in loose and b in loose:
                lines[loose.index(a)][loose.index(b)] += x
    return lines


def determinant(lines):
    """By elimination with fractions."""
    lines = [[Fraction(x) for x in line] for line in lines]
    total = Fraction(1)
    for k in range(len(lines)):
        pivot = next((j for j in range(k, len(lines)) if lines[j][k]), None)
        if pivot is None:
            return Fraction(0)
        if pivot != k:
            lines[k], lines[pivot] = lines[pivot], lines[k]
            total = -total
        total *= lines[k][k]
        for j in range(k + 1, len(lines)):
            factor = lines[j][k] / lines[k][k]
            lines[j] = [x - factor * y for x, y in zip(lines[j], lines[k])]
    return total


def expanded(lines):
    """The determinant by its first line, for few lines."""
    if not lines:
        return Fraction(1)
    parts = [line[1:] for line in lines]
    total = Fraction(0)
    for k, line in enumerate(lines):
        total += (-1) ** k * Fraction(line[0]) * expanded(parts[:k] + parts[k + 1:])
    return total


def ring_numbers(ends, good=lambda laying: True):
    """The row that counts the plain layings all of whose loops go round, for which good holds."""
    cut = reference.cut(ends)
    numbers = [0] * (cut + 1)
    for laying, windings in reference_loops.all_windings(ends, "DL"):
        if 0 not in windings and good(laying):
            assert len(windings) % 2 == cut % 2
            numbers[len(windings) // 2] += 1
    return row(numbers)


def trees(ends):
    return len([laying for laying, windings in reference_loops.all_windings(ends, "DL") if len(windings) == 1])


def web_trees(thing):
    """All sets of ties tried out."""
    places, _, ties = thing
    many = 0
    for chosen in combinations(range(len(ties)), len(places) - 1):
        group = list(range(len(places)))
        for k in chosen:
            one, other, _ = ties[k]
            if group[one] == group[other]:
                break
            old, new = group[one], group[other]
            group = [new if x == old else x for x in group]
        else:
            many += 1
    return many


def matrix_product(one, other):
    return [[sum(a * b for a, b in zip(line, column)) for column in zip(*other)] for line in one]


def turn_rows(many):
    """The turn rows from number 0 to number many, by the words of [9]."""
    found = [(), (0, 1)]
    while len(found) <= many:
        last, before = found[-1], found[-2]
        size = len(last) + 1
        numbers = [0] * max(size, 2)
        for k, number in enumerate(times((2, -1), last)):
            numbers[k] += number
        for k, number in enumerate(before):
            numbers[k] -= number
        numbers[1] += 2
        found.append(row(numbers))
    return found[:many + 1]


def turned(numbers, many):
    """Row turned by many: the numbers of a matrix that has the row's roots, put into the turn row."""
    if len(numbers) < 2:
        return tuple(number ** many for number in numbers)
    degree, last = len(numbers) - 1, numbers[-1]
    matrix = [[Fraction(0)] * degree for _ in range(degree)]
    for k in range(degree):
        matrix[k][degree - 1] = Fraction(-numbers[k], last)
        if k:
            matrix[k][k - 1] = Fraction(1)
    put_in = [[Fraction(0)] * degree for _ in range(degree)]
    for number in reversed(turn_rows(many)[many]):
        put_in = matrix_product(put_in, matrix)
        for k in range(degree):
            put_in[k][k] += number
    return tuple(int(last ** many * x) for x in characteristic(put_in))


def characteristic(matrix):
    """The numbers of the polynomial that has the proper values of matrix as its roots, the last one 1."""
    size = len(matrix)
    found = [Fraction(1)]
    power = [[Fraction(int(j == k)) for k in range(size)] for j in range(size)]
    for many in range(1, size + 1):
        product = matrix_product(matrix, power)
        number = -sum(product[k][k] for k in range(size)) / many
        found.append(number)
        power = [[product[j][k] + (number if j == k else 0) for k in range(size)] for j in range(size)]
    return found[::-1]
