"""Slow and plain second versions for layings: directions, heights, pieces, ways, windings that can be had.

Nothing here is imported from the package.
"""

from functools import lru_cache
from itertools import product
from math import gcd

import reference
from reference import before


def strands(width, word):
    """The strand pattern, line by line as [20] tells it."""
    bare = [None] * (4 * len(word))
    for place in range(1, width + 1):
        having = [c for c, letter in enumerate(word) if place in (letter, letter + 1)]
        for k, c in enumerate(having):
            leaves = 4 * c + (0 if word[c] == place else 3)
            after, shift = (having[k + 1], 0) if k + 1 < len(having) else (having[0], 1)
            comes = 4 * after + (1 if word[after] == place else 2)
            bare[leaves], bare[comes] = (comes, shift), (leaves, -shift)
    return tuple(bare)


def beside(ends, end):
    """The numbers of the faces of corner end and of the corner numbered by the end before."""
    return reference.face_number(ends, end), reference.face_number(ends, before(end))


@lru_cache(maxsize=None)
def sides(ends):
    """For each end the pair beside it."""
    number = {corner: k for k, face in enumerate(reference.faces(ends)) for corner in face}
    return tuple((number[end], number[before(end)]) for end in range(len(ends)))


def is_directions(ends, thing):
    if type(thing) is not tuple or len(thing) != len(ends):
        return False
    if any(type(x) is not int or x not in (-1, 0, 1) for x in thing):
        return False
    opposite = all(thing[end] + thing[to] == 0 for end, (to, _) in enumerate(ends))
    return opposite and all(sum(thing[4 * c + p] for p in range(4)) == 0 for c in range(len(ends) // 4))


def directed(ends, laying, only=None):
    """The directions of all loops, or of the one that passes the end only."""
    found = {}
    for loop in reference.loops(ends, laying):
        total = sum(ends[end][1] for end in loop)
        passed = set(loop) | {ends[end][0] for end in loop}
        if only is not None and only not in passed:
            found.update({end: 0 for end in passed})
            continue
        forward = total > 0 or (total == 0 and min(passed) in loop)
        for end in loop:
            found[end], found[ends[end][0]] = (1, -1) if forward else (-1, 1)
    return tuple(found[end] for end in range(len(ends)))


def are_heights(ends, directions, heights):
    """Whether these are the heights, by the definition at each end."""
    if heights[reference.totals(ends).index(1)] != 0:
        return False
    return all(heights[two] == heights[one] + directions[end] for end, (one, two) in enumerate(sides(ends)))


def pieces(ends, laying, letter):
    """The pieces of dark faces for D, of light ones for L."""
    wanted = "dark" if letter == "D" else "light"
    label = {k: k for k, colour in enumerate(reference.colours(ends)) if colour == wanted}
    for _ in label:
        for c, told in enumerate(laying):
            if told == letter:
                one, other = (reference.face_number(ends, k) for k in reference.letter_corners(ends, c, letter))
                label[one] = label[other] = min(label[one], label[other])
    return tuple(sorted(tuple(sorted(k for k in label if label[k] == name)) for name in set(label.values())))


def ways(ends, length):
    """All ways of just so many ends."""
    sums = reference.totals(ends)
    middle, outside = sums.index(1), sums.index(-1)
    found = [((), middle)]
    for _ in range(length):
        found = [(way + (end,), two) for way, here in found for end, (one, two) in enumerate(sides(ends)) if one == here]
    return [way for way, here in found if here == outside]


def lows(ends):
    far = reference.distances(ends, reference.totals(ends).index(1))
    letters = ""
    for c in range(len(ends) // 4):
        near = [far[reference.face_number(ends, 4 * c + p)] for p in range(4)]
        pairs = sorted((near[p], p) for p in (0, 1) if near[p] == near[p + 2])
        letters += "D" if reference.is_dark(ends, 4 * c + pairs[0][1]) else "L"
    return letters


@lru_cache(maxsize=None)
def all_windings(ends, letters="DLX"):
    """The pairs (laying, windings) of all layings of these letters."""
    partner = {(end, letter): reference.joined(ends, letter * (len(ends) // 4), end)
               for end in range(len(ends)) for letter in letters}
    found = []
    for chosen in product(letters, repeat=len(ends) // 4):
        left, sizes = set(range(len(ends))), []
        while left:
            first = here = min(left)
            total = 0
            while True:
                to, shift = ends[here]
                left -= {here, to}
                total += shift
                here = partner[to, chosen[to // 4]]
                if here == first:
                    break
            sizes.append(abs(total))
        found.append(("".join(chosen), tuple(sorted(sizes, reverse=True))))
    return tuple(found)


def threads(windings, sectors):
    """The dict winding -> how many threads, for a laying with these windings."""
    found = {}
    for t in windings:
        g = gcd(t, sectors)
        found[t // g if g else 0] = found.get(t // g if g else 0, 0) + g
    return found
