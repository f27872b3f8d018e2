"""Layings, and the ends that their letters join."""

from threadsround.colours import dark_at
from threadsround.joints import joint_of
from threadsround.kinds import is_number
from threadsround.needs import LETTERS, is_crossing, is_end, need


LAYING_LETTERS = ("D", "L", "X")


def is_string_of(size, letters, thing):
    """Whether thing is a string of just size of these letters."""
    return isinstance(thing, str) and len(thing) == size and all([letter in letters for letter in thing])


def is_laying(size, thing):
    """Whether thing is a string of just size letters D, L, X."""
    return is_string_of(size, LAYING_LETTERS, thing)


def is_plain(size, thing):
    """Whether thing is a string of just size letters D, L."""
    return is_string_of(size, LETTERS, thing)


def need_laying(pattern, laying):
    """Refuse what is no laying of pattern."""
    need(is_laying(len(pattern) // 4, laying), "laying")


def need_plain(pattern, laying):
    """Refuse what is no plain laying of pattern."""
    need(is_plain(len(pattern) // 4, laying), "laying")


def joined_end(pattern, laying, end):
    """The end that the laying joins with end."""
    need_laying(pattern, laying)
    need(is_end(pattern, end), "end")
    return joint_of(dark_at(pattern), laying[end // 4], end)


def is_end_at(crossing, thing):
    """Whether thing is an end of crossing."""
    return is_number(thing) and thing // 4 == crossing


def letter_for(pattern, crossing, one, other):
    """The letter that joins the ends one and other of crossing."""
    need(is_crossing(pattern, crossing), "crossing")
    need(is_end_at(crossing, one), "one")
    need(is_end_at(crossing, other) and other != one, "other")
    dark = dark_at(pattern)
    found = [letter for letter in LAYING_LETTERS if joint_of(dark, letter, one) == other]
    return found[0]
