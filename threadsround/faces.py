"""The faces of a pattern, their totals, the middle and the outside."""

from threadsround.ends import end_before
from threadsround.kinds import is_number
from threadsround.needs import is_crossing, is_end, need


def walk_from(pattern, corner):
    """The corners of the walk from corner, up to where it comes back."""
    walk = [corner]
    here = end_before(pattern[corner][0])
    while here != corner:
        walk.append(here)
        here = end_before(pattern[here][0])
    return tuple(walk)


def faces_of(pattern):
    """The tuple of the faces, by their numbers."""
    faces = []
    seen = [False] * len(pattern)
    for corner in range(len(pattern)):
        if not seen[corner]:
            face = walk_from(pattern, corner)
            faces.append(face)
            for other in face:
                seen[other] = True
    return tuple(faces)


def numbers_at(pattern):
    """The tuple of the numbers of the faces, one for each corner."""
    numbers = [0] * len(pattern)
    for number, face in enumerate(faces_of(pattern)):
        for corner in face:
            numbers[corner] = number
    return tuple(numbers)


def steps_from(pattern, start):
    """The list of triples (face, corner, beside), by numbers, nearest to start first.

    Each face but start is come to just once, as beside, from face over the line at corner.
    """
    faces = faces_of(pattern)
    numbers = numbers_at(pattern)
    reached = {start: True}
    sequence = [start]
    steps = []
    k = 0
    while k < len(sequence):
        here = sequence[k]
        for corner in faces[here]:
            beside = numbers[end_before(corner)]
            if beside not in reached:
                reached[beside] = True
                sequence.append(beside)
                steps.append((here, corner, beside))
        k += 1
    return steps


def walk_sum(pattern, corners):
    """The sum of the shifts at these corners."""
    return sum([pattern[corner][1] for corner in corners])


def totals_of(pattern):
    """The tuple of the totals of the faces, by their numbers."""
    return tuple([walk_sum(pattern, face) for face in faces_of(pattern)])


def walk_between(pattern, corner, other):
    """The corners of the walk from corner to other, in one face, other left out."""
    walk = walk_from(pattern, corner)
    return walk[:walk.index(other)]


def middle_corners(pattern):
    """The face that is the middle."""
    return faces_of(pattern)[middle_of(pattern)]


def is_middle_corner(pattern, thing):
    """Whether thing is a corner of the middle."""
    return is_end(pattern, thing) and thing in middle_corners(pattern)


def is_outside_corner(pattern, thing):
    """Whether thing is a corner of the outside."""
    return is_end(pattern, thing) and thing in faces_of(pattern)[outside_of(pattern)]


def face_at(pattern, corner):
    """The number of the face of corner."""
    need(is_end(pattern, corner), "corner")
    return numbers_at(pattern)[corner]


def total_of(pattern, face):
    """The total of the face with this number."""
    totals = totals_of(pattern)
    need(is_number(face) and face < len(totals), "face")
    return totals[face]


def middle_of(pattern):
    """The number of the face with the total 1."""
    return totals_of(pattern).index(1)


def outside_of(pattern):
    """The number of the face with the total -1."""
    return totals_of(pattern).index(-1)


def faces_round(pattern, crossing):
    """The numbers of the faces of the four corners of crossing, from position 0 to 3."""
    need(is_crossing(pattern, crossing), "crossing")
    return numbers_at(pattern)[4 * crossing:4 * crossing + 4]
