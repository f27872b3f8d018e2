"""Crossings, positions and sectors named anew."""

from threadsround.ends import turned_end
from threadsround.kinds import is_integer, is_integer_tuple, is_number
from threadsround.needs import is_crossing, need
from threadsround.relinings import named_anew


def is_order(pattern, thing):
    """Whether thing is a tuple with each crossing of pattern just once."""
    return is_integer_tuple(thing) and sorted(thing) == list(range(len(pattern) // 4))


def renamed(pattern, order):
    """The pattern with crossing c called order[c], positions kept."""
    need(is_order(pattern, order), "order")
    return named_anew(pattern, [4 * order[end // 4] + end % 4 for end in range(len(pattern))])


def spun(pattern, crossing, quarters):
    """The pattern with the end of crossing at position p at position (p + quarters) % 4."""
    need(is_crossing(pattern, crossing), "crossing")
    need(is_number(quarters), "quarters")
    names = list(range(len(pattern)))
    for end in range(4 * crossing, 4 * crossing + 4):
        names[end] = turned_end(end, quarters)
    return named_anew(pattern, names)


def moved_on(pattern, crossing, by):
    """The pattern with a shift less by by for lines that leave crossing for another one."""
    need(is_crossing(pattern, crossing), "crossing")
    need(is_integer(by), "by")
    moved = []
    for end, (to, shift) in enumerate(pattern):
        leaves = 1 if end // 4 == crossing else 0
        comes = 1 if to // 4 == crossing else 0
        moved.append((to, shift + by * (comes - leaves)))
    return tuple(moved)
