"""Layings without X."""

from threadsround.directions import directed
from threadsround.ends import turned_end
from threadsround.layingkinds import LAYING_LETTERS, is_string_of, letter_for
from threadsround.needs import need


def letter_without_cross(pattern, directions, crossing):
    """The letter D or L that joins at crossing an end that comes with one that leaves, twice."""
    end = 4 * crossing
    position = 1 if directions[end] != directions[end + 1] else 3
    return letter_for(pattern, crossing, end, turned_end(end, position))


def uncrossed(pattern, laying):
    """The plain laying with a letter D or L in place of each X."""
    directions = directed(pattern, laying)
    letters = []
    for crossing, letter in enumerate(laying):
        letters.append(letter_without_cross(pattern, directions, crossing) if letter == "X" else letter)
    return "".join(letters)


def x_count(laying):
    """How many X the string of letters D, L, X has."""
    need(isinstance(laying, str) and is_string_of(len(laying), LAYING_LETTERS, laying), "laying")
    return laying.count("X")
