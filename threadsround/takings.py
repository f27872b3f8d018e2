"""Patterns taken down to one crossing, and built up again."""

from threadsround.deeds import after_step
from threadsround.errors import InvalidPaper, NotUsable, PatternError
from threadsround.needs import LETTERS, is_crossing, is_letter, need
from threadsround.patternchecker import is_pattern
from threadsround.smoothings import smooth_word, smoothed


def sound_smoothing(pattern):
    """A pair (crossing, letter) that is sound; there is one in each pattern of two crossings or more."""
    for crossing in range(len(pattern) // 4):
        for letter in LETTERS:
            if smooth_word(pattern, crossing, letter) == "sound":
                return crossing, letter
    return None


def taken_down(pattern):
    """A tuple of sound smoothings, one after the other, that leads down to one crossing."""
    found = []
    now = pattern
    while len(now) > 4:
        crossing, letter = sound_smoothing(now)
        found.append((crossing, letter))
        now = smoothed(now, crossing, letter)
    return tuple(found)


def is_smoothing(pattern, thing):
    """Whether thing is a pair of a crossing of pattern and a letter."""
    return isinstance(thing, tuple) and len(thing) == 2 and is_crossing(pattern, thing[0]) and is_letter(thing[1])


def lets_down(pattern, thing):
    """The last pattern, of one crossing, to which thing leads; InvalidPaper if it does not."""
    if not isinstance(thing, tuple):
        raise InvalidPaper("shape", -1)
    now = pattern
    for k, step in enumerate(thing):
        if not is_smoothing(now, step):
            raise InvalidPaper("step", k)
        crossing, letter = step
        if smooth_word(now, crossing, letter) != "sound":
            raise InvalidPaper("smooth", k)
        now = smoothed(now, crossing, letter)
    if len(now) > 4:
        raise InvalidPaper("more", len(now) // 4)
    return now


def built_up(pattern, steps):
    """The pattern after steps, one after the other."""
    need(isinstance(steps, tuple), "steps")
    now = pattern
    for k, step in enumerate(steps):
        try:
            now = after_step(now, step)
        except PatternError:
            raise NotUsable("steps", k) from None
    return now


def single_patterns():
    """The ascending tuple of the patterns of one crossing with lines from end 0 to 1 and from 2 to 3."""
    shifts = (-1, 0, 1)
    tried = [((1, one), (0, -one), (3, other), (2, -other)) for one in shifts for other in shifts]
    return tuple(sorted([pattern for pattern in tried if is_pattern(pattern)]))
