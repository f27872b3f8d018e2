"""The loops of layings, and other closed walks."""

from threadsround.faces import walk_sum
from threadsround.joints import joints_of
from threadsround.layingkinds import need_laying
from threadsround.needs import is_end, need


def loop_along(pattern, joints, end):
    """The ends along which a loop leaves, beginning with end."""
    loop = [end]
    here = joints[pattern[end][0]]
    while here != end:
        loop.append(here)
        here = joints[pattern[here][0]]
    return tuple(loop)


def ends_passed(pattern, loop):
    """The list of the ends that the loop passes, at both ends of its lines."""
    return list(loop) + [pattern[end][0] for end in loop]


def loops_of(pattern, laying):
    """All loops of the laying, ascending."""
    need_laying(pattern, laying)
    joints = joints_of(pattern, laying)
    loops = []
    seen = [False] * len(pattern)
    for end in range(len(pattern)):
        if not seen[end]:
            loop = loop_along(pattern, joints, end)
            loops.append(loop)
            for passed in ends_passed(pattern, loop):
                seen[passed] = True
    return tuple(loops)


def loop_numbers(pattern, loops):
    """The list that tells for each end which of the loops of a laying, by their places, passes it."""
    numbers = [0] * len(pattern)
    for number, loop in enumerate(loops):
        for end in ends_passed(pattern, loop):
            numbers[end] = number
    return numbers


def loop_at(pattern, laying, end):
    """The loop of the laying that passes end."""
    need_laying(pattern, laying)
    need(is_end(pattern, end), "end")
    joints = joints_of(pattern, laying)
    loop = loop_along(pattern, joints, end)
    return loop_along(pattern, joints, min(ends_passed(pattern, loop)))


def walk_total(pattern, walk):
    """The sum of the shifts of the ends of walk."""
    need(is_walk(pattern, walk), "walk")
    return walk_sum(pattern, walk)


def windings_of(pattern, laying):
    """The windings of all loops of the laying, the greatest first."""
    return tuple(sorted([abs(walk_sum(pattern, loop)) for loop in loops_of(pattern, laying)], reverse=True))


def is_walk(pattern, thing):
    """Whether thing is a closed walk of pattern."""
    if not isinstance(thing, tuple) or thing == ():
        return False
    if not all([is_end(pattern, end) for end in thing]):
        return False
    comes = [pattern[end][0] // 4 for end in thing]
    leaves = [end // 4 for end in thing]
    return comes == leaves[1:] + leaves[:1]
