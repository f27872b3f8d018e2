"""Light and dark faces and corners."""

from threadsround.faces import numbers_at, outside_of, steps_from
from threadsround.needs import is_crossing, need


def dark_faces(pattern):
    """A tuple that tells for each face, by its number, whether it is dark."""
    outside = outside_of(pattern)
    dark = {outside: False}
    for face, _, beside in steps_from(pattern, outside):
        dark[beside] = not dark[face]
    return tuple([dark[number] for number in range(len(dark))])


def dark_at(pattern):
    """A tuple that tells for each corner whether it is dark."""
    dark = dark_faces(pattern)
    return tuple([dark[number] for number in numbers_at(pattern)])


def colours_of(pattern):
    """A tuple with "light" or "dark" for each face, by their numbers."""
    return tuple(["dark" if dark else "light" for dark in dark_faces(pattern)])


def corners_that_are(pattern, crossing, wanted):
    """The corners of crossing that are dark, or not, as wanted tells."""
    dark = dark_at(pattern)
    return tuple([corner for corner in range(4 * crossing, 4 * crossing + 4) if dark[corner] == wanted])


def dark_corners(pattern, crossing):
    """The pair of the dark corners of crossing, ascending."""
    need(is_crossing(pattern, crossing), "crossing")
    return corners_that_are(pattern, crossing, True)


def light_corners(pattern, crossing):
    """The pair of the light corners of crossing, ascending."""
    need(is_crossing(pattern, crossing), "crossing")
    return corners_that_are(pattern, crossing, False)
