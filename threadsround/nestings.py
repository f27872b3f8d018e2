"""A pattern put inside of another one."""

from threadsround.faces import is_middle_corner, is_outside_corner
from threadsround.needs import need
from threadsround.patternchecker import is_pattern
from threadsround.relinings import EMPTY_CROSSING, with_lines


def need_place(other, place):
    """Refuse the first of other, a pattern, and place, a corner of its middle, that is not as stated."""
    need(is_pattern(other), "other")
    need(is_middle_corner(other, place), "place")


def nested(pattern, corner, other, place):
    """The pattern of pattern inside of other, with a further crossing between them."""
    need(is_outside_corner(pattern, corner), "corner")
    need_place(other, place)
    behind = len(pattern)
    new = behind + len(other)
    to, shift = pattern[corner]
    far, further = other[place]
    ends = pattern + tuple([(behind + end, old) for end, old in other]) + EMPTY_CROSSING
    lines = [(new, corner, 0), (new + 1, to, shift), (new + 2, behind + place, 0), (new + 3, behind + far, further)]
    return with_lines(ends, lines)
