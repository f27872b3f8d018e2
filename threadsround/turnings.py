"""How a pattern is alike to itself, and the pattern of one sector of it."""

from threadsround.alikes import map_by, written_from
from threadsround.faces import faces_of, middle_corners, middle_of, outside_of
from threadsround.kinds import is_integer
from threadsround.needs import need
from threadsround.shiftings import with_totals


def greatest_turning(pattern):
    """How many alike maps lead from pattern to itself."""
    corners = middle_corners(pattern)
    written = written_from(pattern, corners[0])
    return len([corner for corner in corners if written_from(pattern, corner) == written])


def turnings_of(pattern):
    """The set of the divisors of the greatest turning."""
    greatest = greatest_turning(pattern)
    return tuple([sectors for sectors in range(1, greatest + 1) if greatest % sectors == 0])


def turning_map(pattern, sectors):
    """The alike map from pattern to itself that turns it by one of so many sectors."""
    need(is_integer(sectors) and sectors in turnings_of(pattern), "sectors")
    corners = middle_corners(pattern)
    place = len(corners) // sectors % len(corners)
    return map_by(pattern, corners[0], pattern, corners[place])


def sector_names(pattern, sectors):
    """For each end the end of one sector to which it is turned, crossings in the sequence of their least ones."""
    turning = turning_map(pattern, sectors)
    names = {}
    for end in range(len(pattern)):
        name = len(names) // sectors
        here = end
        while here not in names:
            names[here] = name
            here = turning[here]
    return names


def sector_for(pattern, sectors):
    """A pattern whose drawing of sectors is alike to pattern."""
    names = sector_names(pattern, sectors)
    tos = [0] * (len(pattern) // sectors)
    for end, (to, _) in enumerate(pattern):
        tos[names[end]] = names[to]
    faces = faces_of(pattern)
    inner = names[faces[middle_of(pattern)][0]]
    outer = names[faces[outside_of(pattern)][0]]
    sector_faces = faces_of(tuple([(to, 0) for to in tos]))
    totals = [int(inner in face) - int(outer in face) for face in sector_faces]
    return with_totals(tos, totals)
