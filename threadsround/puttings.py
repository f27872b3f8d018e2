"""A further crossing put in a face."""

from threadsround.faces import numbers_at, walk_between, walk_sum
from threadsround.needs import is_end, need
from threadsround.relinings import EMPTY_CROSSING, with_lines


def can_put(pattern, corner, other):
    """Whether corner and other are unlike and in one face."""
    need(is_end(pattern, corner), "corner")
    need(is_end(pattern, other), "other")
    numbers = numbers_at(pattern)
    return corner != other and numbers[corner] == numbers[other]


def put_in(pattern, corner, other):
    """The pattern with a further crossing on the lines at corner and other."""
    need(can_put(pattern, corner, other), "other")
    new = len(pattern)
    to, shift = pattern[corner]
    far, further = pattern[other]
    # The shift at corner and those strictly between corner and other.
    reach = walk_sum(pattern, walk_between(pattern, corner, other))
    lines = [(new, corner, 0), (new + 1, to, shift), (new + 2, other, reach), (new + 3, far, further + reach)]
    return with_lines(pattern + EMPTY_CROSSING, lines)
