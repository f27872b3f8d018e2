"""A further crossing with a petal on a line."""

from threadsround.faces import numbers_at, totals_of
from threadsround.kinds import is_integer
from threadsround.needs import is_end, need
from threadsround.relinings import EMPTY_CROSSING, with_lines


def petal_on(pattern, end, shift):
    """The pattern with a further crossing on the line at end, and a petal of shift at it."""
    need(is_end(pattern, end), "end")
    total = totals_of(pattern)[numbers_at(pattern)[end]]
    need(is_integer(shift) and shift in (0, total), "shift")
    new = len(pattern)
    to, old_shift = pattern[end]
    lines = [(new, end, 0), (new + 1, to, old_shift), (new + 2, new + 3, shift)]
    return with_lines(pattern + EMPTY_CROSSING, lines)
