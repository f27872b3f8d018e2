"""Heights of faces, by directions."""

from threadsround.directions import is_directions, led_along
from threadsround.faces import middle_of, steps_from
from threadsround.loops import loop_at
from threadsround.needs import need


def heights_of(pattern, directions):
    """The heights of the faces, by their numbers, the middle at 0."""
    need(is_directions(pattern, directions), "directions")
    middle = middle_of(pattern)
    heights = {middle: 0}
    for face, corner, beside in steps_from(pattern, middle):
        heights[beside] = heights[face] + directions[corner]
    return tuple([heights[number] for number in range(len(heights))])


def loop_directions(pattern, laying, end):
    """The directions of the loop of the laying that passes end, 0 at all ends that it does not pass."""
    return led_along(pattern, [loop_at(pattern, laying, end)])
