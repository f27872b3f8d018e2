"""Slow and plain second versions of what the document defines, for the tests alone.

Nothing here is imported from the package.
"""

from functools import lru_cache
from itertools import product


def whole(thing):
    return type(thing) is int


def corner_walk(ends, corner):
    """The corner that the walk comes to from this one."""
    to = ends[corner][0]
    return to - 1 if to % 4 else to + 3


def faces(ends):
    """The faces as tuples of corners."""
    left = set(range(len(ends)))
    found = []
    while left:
        first = min(left)
        face = [first]
        here = corner_walk(ends, first)
        while here != first:
            face.append(here)
            here = corner_walk(ends, here)
        left -= set(face)
        found.append(tuple(face))
    return tuple(sorted(found))


def totals(ends):
    return [sum(ends[corner][1] for corner in face) for face in faces(ends)]


def crossings_with(ends, first):
    """The set of the crossings that hang together with the first one."""
    groups = [{c} for c in range(len(ends) // 4)]
    for end, (to, _) in enumerate(ends):
        one = next(g for g in groups if end // 4 in g)
        other = next(g for g in groups if to // 4 in g)
        if one is not other:
            groups.remove(other)
            one |= other
    return next(g for g in groups if first in g)


def fault(thing):
    """(word, at) of the first check of [17] that fails, or None."""
    if type(thing) is not tuple or not thing or len(thing) % 4:
        return ("shape", -1)
    size = len(thing)
    for e, pair in enumerate(thing):
        good = type(pair) is tuple and len(pair) == 2 and whole(pair[0]) and whole(pair[1])
        if not good or not 0 <= pair[0] < size or pair[0] == e:
            return ("end", e)
        back = thing[pair[0]]
        if type(back) is not tuple or [type(x) for x in back] != [int, int] or back != (e, -pair[1]):
            return ("back", e)
    together = crossings_with(thing, 0)
    for c in range(size // 4):
        if c not in together:
            return ("apart", c)
    many = len(faces(thing))
    if many != size // 4 + 2:
        return ("faces", many)
    sums = totals(thing)
    if sums.count(1) != 1 or sums.count(-1) != 1 or sums.count(0) != many - 2:
        return ("totals", -1)
    return None


@lru_cache(maxsize=100000)
def face_number(ends, corner):
    return next(k for k, face in enumerate(faces(ends)) if corner in face)


def before(end):
    return end - 1 if end % 4 else end + 3


def after(end):
    return end + 1 if end % 4 != 3 else end - 3


def distances(ends, start):
    """The fewest lines to be crossed from the face number start to each face."""
    far = {start: 0}
    ring = [start]
    number = {corner: k for k, face in enumerate(faces(ends)) for corner in face}
    while ring:
        further = []
        for end in range(len(ends)):
            one, other = number[end], number[before(end)]
            for a, b in ((one, other), (other, one)):
                if a in ring and b not in far:
                    far[b] = far[a] + 1
                    further.append(b)
        ring = further
    return [far[k] for k in range(len(far))]


@lru_cache(maxsize=100000)
def cut(ends):
    sums = totals(ends)
    return distances(ends, sums.index(1))[sums.index(-1)]


@lru_cache(maxsize=100000)
def colours(ends):
    """Faces an odd number of lines away from the outside are dark."""
    return ["dark" if far % 2 else "light" for far in distances(ends, totals(ends).index(-1))]


@lru_cache(maxsize=100000)
def is_dark(ends, corner):
    return colours(ends)[face_number(ends, corner)] == "dark"


@lru_cache(maxsize=100000)
def joined(ends, laying, end):
    """The end joined with end, by the colour of the corner that lies between the two."""
    letter = laying[end // 4]
    if letter == "X":
        return after(after(end))
    between_is_dark = letter == "L"
    if is_dark(ends, end) == between_is_dark:
        return after(end)
    return before(end)


def loops(ends, laying):
    """The loops, each beginning with the least end that it passes."""
    partner = [joined(ends, laying, end) for end in range(len(ends))]
    left = set(range(len(ends)))
    found = []
    while left:
        first = min(left)
        loop = []
        here = first
        while True:
            loop.append(here)
            left -= {here, ends[here][0]}
            here = partner[ends[here][0]]
            if here == first:
                break
        found.append(tuple(loop))
    return tuple(sorted(found))


def windings(ends, laying):
    return tuple(sorted((abs(sum(ends[e][1] for e in loop)) for loop in loops(ends, laying)), reverse=True))


def layings(ends, letters="DLX"):
    return ["".join(chosen) for chosen in product(letters, repeat=len(ends) // 4)]


def grown_map(one, other, image):
    """The map of ends that takes end 0 to image, next ends to next ends and lines to lines, or None."""
    found = {0: image}
    waiting = [0]
    while waiting:
        end = waiting.pop()
        for near, its in ((after(end), after(found[end])), (one[end][0], other[found[end]][0])):
            if near not in found:
                found[near] = its
                waiting.append(near)
            elif found[near] != its:
                return None
    return tuple(found[end] for end in range(len(one)))


def is_alike_map(one, other, ends):
    """Whether the tuple ends is an alike map, by the words of [4]."""
    if len(one) != len(other) or sorted(ends) != list(range(len(other))):
        return False
    for end in range(len(one)):
        if ends[after(end)] != after(ends[end]) or ends[one[end][0]] != other[ends[end]][0]:
            return False
    for total in (1, -1):
        mine = faces(one)[totals(one).index(total)]
        its = faces(other)[totals(other).index(total)]
        if sorted(ends[corner] for corner in mine) != sorted(its):
            return False
    return True


def alike_maps(one, other):
    """All alike maps from one to other."""
    if len(one) != len(other):
        return []
    tried = [grown_map(one, other, image) for image in range(len(other))]
    return [ends for ends in tried if ends is not None and is_alike_map(one, other, ends)]


def matchings(ends):
    """All ways to part the list of ends in pairs."""
    if not ends:
        yield ()
        return
    first, *rest = ends
    for k, other in enumerate(rest):
        for more in matchings(rest[:k] + rest[k + 1:]):
            yield ((first, other), *more)


def all_patterns(crossings, shifts=(-1, 0, 1)):
    """All patterns of so many crossings with these shifts alone."""
    found = []
    for lines in matchings(list(range(4 * crossings))):
        bare = [None] * (4 * crossings)
        for one, other in lines:
            bare[one], bare[other] = (other, 0), (one, 0)
        if len(crossings_with(bare, 0)) < crossings or len(faces(bare)) != crossings + 2:
            continue
        for chosen in product(shifts, repeat=len(lines)):
            ends = list(bare)
            for (one, other), shift in zip(lines, chosen):
                ends[one], ends[other] = (other, shift), (one, -shift)
            if fault(tuple(ends)) is None:
                found.append(tuple(ends))
    return found


def letter_corners(ends, crossing, letter):
    """The two corners that the letter runs together."""
    return [c for c in range(4 * crossing, 4 * crossing + 4) if is_dark(ends, c) == (letter == "D")]


def smooth_word(ends, crossing, letter):
    if len(ends) == 4:
        return "alone"
    one, other = [face_number(ends, corner) for corner in letter_corners(ends, crossing, letter)]
    sums = totals(ends)
    if {sums[one], sums[other]} == {1, -1}:
        return "joined"
    return "apart" if one == other else "sound"


def contracted(ends, crossing, letter):
    """The lines left, as a dict, joint after joint being closed; and the shifts of the bare rings."""
    lines = dict(enumerate(ends))
    rings = []
    laying = "".join(letter if c == crossing else "D" for c in range(len(ends) // 4))
    left = set(range(4 * crossing, 4 * crossing + 4))
    while left:
        one = min(left)
        other = joined(ends, laying, one)
        left -= {one, other}
        (mine, back), (its, on) = lines.pop(one), lines.pop(other)
        if mine == other:
            rings.append(abs(back))
        else:
            lines[mine], lines[its] = (its, on - back), (mine, back - on)
    return lines, rings


def numbered(lines, crossings):
    """The ends of these crossings, in their sequence, among the lines."""
    place = {c: k for k, c in enumerate(crossings)}
    return tuple((4 * place[lines[4 * c + p][0] // 4] + lines[4 * c + p][0] % 4, lines[4 * c + p][1])
                 for c in crossings for p in range(4))


def hanging(lines, crossing):
    """The sorted crossings that hang together with this one by the lines."""
    found, waiting = {crossing}, [crossing]
    while waiting:
        here = waiting.pop()
        for p in range(4):
            there = lines[4 * here + p][0] // 4
            if there not in found:
                found.add(there)
                waiting.append(there)
    return sorted(found)


def walk_parts(ends, one, other):
    """The sums of shifts from corner one to corner other, and from other to one."""
    sums = []
    for start, stop in ((one, other), (other, one)):
        here, total = start, 0
        while True:
            total += ends[here][1]
            here = corner_walk(ends, here)
            if here == stop:
                break
        sums.append(total)
    return sums


def drawing(ends, sectors):
    crossings = len(ends) // 4
    told = {}
    for i in range(sectors):
        for end, (to, shift) in enumerate(ends):
            j = (i + shift) % sectors
            told[4 * i * crossings + end] = (4 * j * crossings + to, (i + shift - j) // sectors)
    return tuple(told[e] for e in range(4 * crossings * sectors))


def moved_crossings(ends, far):
    """Each crossing c moved by far[c]."""
    return tuple((to, shift + far[end // 4] - far[to // 4]) for end, (to, shift) in enumerate(ends))


def is_modular(sectors, thing):
    if type(thing) is not tuple or not thing or len(thing) % 4:
        return False
    for e, pair in enumerate(thing):
        if type(pair) is not tuple or [type(x) for x in pair] != [int, int]:
            return False
        if not 0 <= pair[0] < len(thing) or pair[0] == e or not 0 <= pair[1] < sectors:
            return False
    for e, (to, shift) in enumerate(thing):
        if thing[to] != (e, (sectors - shift) % sectors):
            return False
    if len(crossings_with(thing, 0)) < len(thing) // 4 or len(faces(thing)) != len(thing) // 4 + 2:
        return False
    sums = [total % sectors for total in totals(thing)]
    return sums.count(1) == 1 and sums.count(sectors - 1) == 1 and sums.count(0) == len(sums) - 2


def with_new_crossing(ends, lines):
    """The ends with a crossing more whose four ends have the lines (to, shift)."""
    found = dict(enumerate(ends))
    for p, (to, shift) in enumerate(lines):
        found[len(ends) + p] = (to, shift)
        found[to] = (len(ends) + p, -shift)
    return tuple(found[e] for e in range(len(ends) + 4))


def put_in(ends, corner, other):
    """[29], word by word."""
    (its, s), (far, t) = ends[corner], ends[other]
    b, here = 0, corner_walk(ends, corner)
    while here != other:
        b += ends[here][1]
        here = corner_walk(ends, here)
    return with_new_crossing(ends, [(corner, 0), (its, s), (other, s + b), (far, t + s + b)])


def petal_on(ends, end, shift):
    """[29], word by word."""
    its, old = ends[end]
    new = len(ends)
    return with_new_crossing(ends, [(end, 0), (its, old), (new + 3, shift), (new + 2, -shift)])


def nested(ends, corner, other, place):
    """[30], word by word."""
    both = ends + tuple((to + len(ends), shift) for to, shift in other)
    (its, s), (far, t) = ends[corner], other[place]
    return with_new_crossing(both, [(corner, 0), (its, s), (len(ends) + place, 0), (len(ends) + far, t)])


def face_letter(ends, corner):
    return "D" if is_dark(ends, corner) else "L"
