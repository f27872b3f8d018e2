"""Deeds that make a pattern of a pattern, as tuples that begin with a word."""

from threadsround.errors import NotUsable
from threadsround.nestings import need_place, nested
from threadsround.petals import petal_on
from threadsround.puttings import put_in
from threadsround.smoothings import smoothed


def is_told(thing, word, length):
    """Whether thing is a tuple of this length that begins with word."""
    return isinstance(thing, tuple) and len(thing) == length and thing[0] == word


def after_step(pattern, step):
    """The pattern after ("put", corner, other) or ("petal", end, shift)."""
    if is_told(step, "put", 3):
        return put_in(pattern, step[1], step[2])
    if is_told(step, "petal", 3):
        return petal_on(pattern, step[1], step[2])
    raise NotUsable("step", -1)


def after_deed(pattern, deed):
    """The pattern after a step, ("smooth", crossing, letter) or ("nest", other, place, corner)."""
    if is_told(deed, "smooth", 3):
        return smoothed(pattern, deed[1], deed[2])
    if is_told(deed, "nest", 4):
        # This deed names other and place ahead of corner, so these are refused first.
        need_place(deed[1], deed[2])
        return nested(pattern, deed[3], deed[1], deed[2])
    return after_step(pattern, deed)
