"""Parameters that are not as stated are refused, and what is stated for many of them."""

from threadsround.errors import NotUsable
from threadsround.kinds import is_number

LETTERS = ("D", "L")


def need(good, name):
    """Refuse the parameter called name unless good."""
    if not good:
        raise NotUsable(name, -1)


def is_end(pattern, thing):
    """Whether thing is an end of pattern."""
    return is_number(thing) and thing < len(pattern)


def is_crossing(pattern, thing):
    """Whether thing is a crossing of pattern."""
    return is_number(thing) and 4 * thing < len(pattern)


def is_letter(thing):
    """Whether thing is "D" or "L"."""
    return thing in LETTERS
