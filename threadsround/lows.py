"""The laying whose loops follow the distances."""

from threadsround.colours import dark_at
from threadsround.distances import distances_of
from threadsround.ends import end_before
from threadsround.faces import numbers_at
from threadsround.kinds import is_count
from threadsround.loops import loops_of
from threadsround.needs import need


def low_corner(far, corner):
    """Corner or the next one, whichever is as far as its opposite one, and less far if both are.

    far are the distances of the four corners of a crossing, from corner on.
    """
    alike = far[0] == far[2]
    return corner if alike and (far[1] != far[3] or far[0] < far[1]) else corner + 1


def lows_laying(pattern):
    """The plain laying that runs together, at each crossing, corners of like and low distances."""
    dark = dark_at(pattern)
    distances = distances_of(pattern)
    far = [distances[number] for number in numbers_at(pattern)]
    corners = [low_corner(far[end:end + 4], end) for end in range(0, len(pattern), 4)]
    return "".join(["D" if dark[corner] else "L" for corner in corners])


def level_loops(pattern, many):
    """The loops of the lows laying between the distances many - 1 and many, ascending."""
    need(is_count(many), "many")
    numbers = numbers_at(pattern)
    distances = distances_of(pattern)
    levels = []
    for loop in loops_of(pattern, lows_laying(pattern)):
        if max(distances[numbers[loop[0]]], distances[numbers[end_before(loop[0])]]) == many:
            levels.append(loop)
    return tuple(levels)
