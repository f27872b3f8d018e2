"""Patterns that are alike, and one writing for all of these."""

from threadsround.ends import turned_end
from threadsround.faces import is_middle_corner, middle_corners
from threadsround.needs import need
from threadsround.patternchecker import is_pattern


def gone_through(pattern, corner):
    """The ends in the sequence of their new numbers, and by how much each crossing is to be moved back."""
    sequence = [turned_end(corner, position) for position in range(4)]
    leads = {corner // 4: 0}
    k = 0
    while k < len(sequence):
        to, shift = pattern[sequence[k]]
        if to // 4 not in leads:
            # Moved back by so much, the line that leads here first has the shift 0.
            leads[to // 4] = leads[sequence[k] // 4] + shift
            sequence.extend([turned_end(to, position) for position in range(4)])
        k += 1
    return sequence, leads


def written_from(pattern, corner):
    """The pattern of writing_from, for any corner."""
    sequence, leads = gone_through(pattern, corner)
    names = {end: name for name, end in enumerate(sequence)}
    written = []
    for end in sequence:
        to, shift = pattern[end]
        written.append((names[to], shift + leads[end // 4] - leads[to // 4]))
    return tuple(written)


def settled(pattern):
    """The pattern with all names kept, crossings moved so that all shifts are small."""
    _, leads = gone_through(pattern, 0)
    return tuple([(to, shift + leads[end // 4] - leads[to // 4]) for end, (to, shift) in enumerate(pattern)])


def writing_from(pattern, corner):
    """The pattern named anew, by going through it from a corner of the middle."""
    need(is_middle_corner(pattern, corner), "corner")
    return written_from(pattern, corner)


def least_writing(pattern):
    """The least one of the writings from the corners of the middle."""
    return min([written_from(pattern, corner) for corner in middle_corners(pattern)])


def are_alike(pattern, other):
    """Whether pattern and other are alike."""
    return alike_map(pattern, other) is not None


def map_by(pattern, corner, other, place):
    """The tuple of the ends of other for those of pattern, if corner is taken to place."""
    sequence, _ = gone_through(pattern, corner)
    images, _ = gone_through(other, place)
    image_of = dict(zip(sequence, images))
    return tuple([image_of[end] for end in range(len(pattern))])


def alike_map(pattern, other):
    """An alike map from pattern to other, or None."""
    need(is_pattern(other), "other")
    corner = middle_corners(pattern)[0]
    written = written_from(pattern, corner)
    for place in middle_corners(other):
        if written_from(other, place) == written:
            return map_by(pattern, corner, other, place)
    return None
