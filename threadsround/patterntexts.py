"""Patterns as lines of text."""

from threadsround.errors import InvalidPaper, InvalidRow, InvalidText
from threadsround.needs import need
from threadsround.patternchecker import lets_pattern

DIGITS = "0123456789"


def is_decimal(text):
    """Whether text is a number, decimal, without leading zeros."""
    if text == "" or not all([sign in DIGITS for sign in text]):
        return False
    return text == "0" or text[0] != "0"


def field_of(to, shift):
    """The field that tells the pair (to, shift)."""
    mark = "-" if shift < 0 else "+"
    return f"{to}{mark}{abs(shift)}"


def pattern_line(pattern):
    """The string with a field for each end in turn, a single space between two fields."""
    return " ".join([field_of(to, shift) for to, shift in pattern])


def pair_told(field):
    """The pair (to, shift) that field tells, or None if it is not written so."""
    mark = "-" if "-" in field else "+"
    to, _, size = field.partition(mark)
    if not is_decimal(to) or not is_decimal(size):
        return None
    if mark == "-":
        return None if size == "0" else (int(to), -int(size))
    return (int(to), int(size))


def read_pattern(text):
    """The pattern that text tells."""
    need(isinstance(text, str), "text")
    pairs = [pair_told(field) for field in text.split(" ")]
    for place, pair in enumerate(pairs):
        if pair is None:
            raise InvalidText(0, place)
    pattern = tuple(pairs)
    try:
        lets_pattern(pattern)
    except InvalidPaper as refusal:
        raise InvalidRow(refusal.word) from None
    return pattern
