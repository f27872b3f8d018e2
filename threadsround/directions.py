"""Directions: which way the lines of a pattern are led."""

from threadsround.colours import dark_at
from threadsround.faces import walk_sum
from threadsround.kinds import is_integer_tuple
from threadsround.loops import loops_of


def is_directions(pattern, thing):
    """Whether thing is directions of pattern."""
    if not is_integer_tuple(thing) or len(thing) != len(pattern):
        return False
    if not all([abs(thing[end]) <= 1 and thing[to] == -thing[end] for end, (to, _) in enumerate(pattern)]):
        return False
    return all([sum(thing[end:end + 4]) == 0 for end in range(0, len(pattern), 4)])


def led_along(pattern, loops):
    """The directions by which each of these loops has a total above 0, or leaves first along its least end."""
    directions = [0] * len(pattern)
    for loop in loops:
        # A small loop is told as it leaves along the least end that it passes.
        lead = 1 if walk_sum(pattern, loop) >= 0 else -1
        for end in loop:
            directions[end] = lead
            directions[pattern[end][0]] = -lead
    return tuple(directions)


def directed(pattern, laying):
    """The directions in which all loops of the laying lead."""
    return led_along(pattern, loops_of(pattern, laying))


def dark_left(pattern):
    """The directions that have 1 at each end whose corner is dark."""
    return tuple([1 if dark else -1 for dark in dark_at(pattern)])
