"""Patterns that fall apart round the middle where a crossing is smoothed."""

from threadsround.errors import NotSmooth
from threadsround.faces import faces_of, middle_of, outside_of, walk_between, walk_sum
from threadsround.joints import led_on
from threadsround.relinings import picked, reached_from
from threadsround.smoothings import corners_run_together, smooth_word


def falls_round(pattern, crossing, letter):
    """Whether the word is "apart" and both parts of the walk have sums other than 0."""
    if smooth_word(pattern, crossing, letter) != "apart":
        return False
    one, other = corners_run_together(pattern, crossing, letter)
    there = walk_sum(pattern, walk_between(pattern, one, other))
    back = walk_sum(pattern, walk_between(pattern, other, one))
    return there != 0 and back != 0


def piece_with(ends, crossing, face):
    """The piece that has the corners of face, or None if these all belong to crossing, which is gone."""
    left = [corner // 4 for corner in face if corner // 4 != crossing]
    if left == []:
        return None
    return picked(ends, reached_from(ends, left[0]))


def fallen(pattern, crossing, letter):
    """The piece with the middle and the one with the outside, None for a bare ring."""
    if not falls_round(pattern, crossing, letter):
        raise NotSmooth(smooth_word(pattern, crossing, letter))
    ends = led_on(pattern, crossing, letter)
    faces = faces_of(pattern)
    inner = piece_with(ends, crossing, faces[middle_of(pattern)])
    outer = piece_with(ends, crossing, faces[outside_of(pattern)])
    return inner, outer
