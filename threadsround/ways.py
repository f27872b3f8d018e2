"""Ways over lines, from the middle to the outside."""

from threadsround.distances import distances_of
from threadsround.ends import end_before
from threadsround.faces import faces_of, middle_of, numbers_at, outside_of, steps_from
from threadsround.kinds import is_integer_tuple
from threadsround.loops import is_walk
from threadsround.needs import is_end, need


def is_way(pattern, thing):
    """Whether thing is a way of pattern."""
    if not is_integer_tuple(thing) or not all([is_end(pattern, end) for end in thing]):
        return False
    numbers = numbers_at(pattern)
    here = middle_of(pattern)
    for end in thing:
        if numbers[end] != here:
            return False
        here = numbers[end_before(end)]
    # Nothing is crossed by (), which so ends in the middle.
    return here == outside_of(pattern)


def shortest_way(pattern):
    """A way with as many ends as the cut."""
    middle = middle_of(pattern)
    step_to = {beside: (face, corner) for face, corner, beside in steps_from(pattern, middle)}
    ends = []
    here = outside_of(pattern)
    while here != middle:
        here, corner = step_to[here]
        ends.append(corner)
    return tuple(reversed(ends))


def ways_count(pattern):
    """How many ways with as many ends as the cut there are."""
    distances = distances_of(pattern)
    faces = faces_of(pattern)
    numbers = numbers_at(pattern)
    middle = middle_of(pattern)
    counts = [0] * len(faces)
    counts[middle] = 1
    for here in [middle] + [beside for _, _, beside in steps_from(pattern, middle)]:
        for corner in faces[here]:
            beside = numbers[end_before(corner)]
            if distances[beside] > distances[here]:
                counts[beside] = counts[beside] + counts[here]
    return counts[outside_of(pattern)]


def way_total(pattern, way, walk):
    """How often walk crosses way, less how often it does so the other way about."""
    need(is_way(pattern, way), "way")
    need(is_walk(pattern, walk), "walk")
    return sum([way.count(end) - way.count(pattern[end][0]) for end in walk])
