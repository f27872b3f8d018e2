"""Ends joined by letters, and lines led on through a crossing that is taken out."""

from threadsround.colours import dark_at
from threadsround.ends import turned_end


def joint_of(dark, letter, end):
    """The end joined with end by letter, dark telling whether each corner is dark."""
    if letter == "X":
        return turned_end(end, 2)
    # D joins over light corners, L over dark ones; corner end lies ahead of the next end.
    return turned_end(end, 1 if dark[end] == (letter == "L") else 3)


def joints_of(pattern, laying):
    """The list of the ends joined with each end by the laying."""
    dark = dark_at(pattern)
    return [joint_of(dark, laying[end // 4], end) for end in range(len(pattern))]


def led_on(pattern, crossing, letter):
    """The ends with the lines that come to crossing led on, by letter; those of crossing stay."""
    dark = dark_at(pattern)
    ends = list(pattern)
    for end in range(len(pattern)):
        to, shift = pattern[end]
        while end // 4 != crossing and to // 4 == crossing:
            to, further = pattern[joint_of(dark, letter, to)]
            shift += further
        ends[end] = (to, shift)
    return tuple(ends)


def others_than(pattern, crossing):
    """The list of the other crossings."""
    return [other for other in range(len(pattern) // 4) if other != crossing]
