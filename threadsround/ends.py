"""Ends of crossings, and the lines between them."""

from threadsround.kinds import is_number
from threadsround.needs import is_end, need


def turned_end(end, by):
    """The end of the same crossing at the position further by by, modulo 4."""
    return end - end % 4 + (end + by) % 4


def crossing_of(end):
    """The crossing to which end belongs."""
    need(is_number(end), "end")
    return end // 4


def next_end(end):
    """The end behind end, counterclockwise, at its crossing."""
    need(is_number(end), "end")
    return turned_end(end, 1)


def end_before(end):
    """The end ahead of end, at its crossing."""
    need(is_number(end), "end")
    return turned_end(end, 3)


def end_across(end):
    """The end across from end, at its crossing."""
    need(is_number(end), "end")
    return turned_end(end, 2)


def partner_of(pattern, end):
    """The end at the other side of the line at end."""
    need(is_end(pattern, end), "end")
    return pattern[end][0]


def shift_of(pattern, end):
    """The shift of the line that leads away along end."""
    need(is_end(pattern, end), "end")
    return pattern[end][1]


def lines_of(pattern):
    """The set of the triples (end, to, shift), one for each line, end below to."""
    return tuple([(end, to, shift) for end, (to, shift) in enumerate(pattern) if end < to])
