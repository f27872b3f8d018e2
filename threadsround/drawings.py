"""Drawings of a pattern in so many sectors."""

from threadsround.kinds import is_count, is_number
from threadsround.needs import is_end, need


def drawn(pattern, sectors):
    """The drawing of sectors, a pattern itself."""
    need(is_count(sectors), "sectors")
    ends = []
    for sector in range(sectors):
        for to, shift in pattern:
            further, place = divmod(sector + shift, sectors)
            ends.append((place * len(pattern) + to, further))
    return tuple(ends)


def drawn_end(pattern, sectors, sector, end):
    """Which end of the drawing is end in sector."""
    need(is_count(sectors), "sectors")
    need(is_number(sector) and sector < sectors, "sector")
    need(is_end(pattern, end), "end")
    return sector * len(pattern) + end


def end_told(pattern, sectors, end):
    """The pair (sector, end of the pattern) for an end of the drawing."""
    need(is_count(sectors), "sectors")
    need(is_number(end) and end < sectors * len(pattern), "end")
    return (end // len(pattern), end % len(pattern))
