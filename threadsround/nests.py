"""Loops around each other, and where loops meet."""

from threadsround.directions import directed
from threadsround.ends import end_before
from threadsround.faces import numbers_at
from threadsround.heights import heights_of
from threadsround.layingkinds import is_plain
from threadsround.loops import loop_numbers, loops_of, windings_of
from threadsround.needs import need


def is_round(pattern, laying):
    """Whether the laying is plain and all its loops go round."""
    return is_plain(len(pattern) // 4, laying) and 0 not in windings_of(pattern, laying)


def nest_of(pattern, laying):
    """The loops of the laying, all going round, from the middle to the outside."""
    need(is_round(pattern, laying), "laying")
    heights = heights_of(pattern, directed(pattern, laying))
    numbers = numbers_at(pattern)
    loops = loops_of(pattern, laying)
    nest = {}
    for loop in loops:
        nest[min(heights[numbers[loop[0]]], heights[numbers[end_before(loop[0])]])] = loop
    return tuple([nest[place] for place in range(len(loops))])


def meetings(pattern, laying):
    """The set of the crossings that are met by two unlike loops."""
    numbers = loop_numbers(pattern, loops_of(pattern, laying))
    return tuple([end // 4 for end in range(0, len(pattern), 4) if len(set(numbers[end:end + 4])) == 2])
