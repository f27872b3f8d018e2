"""States as four lines of text."""

from threadsround.errors import InvalidText
from threadsround.layingkinds import is_laying
from threadsround.needs import need
from threadsround.patterntexts import is_decimal, pattern_line, read_pattern


def state_line(state):
    """The lines of the pattern, the laying, the prices and the sectors."""
    pattern, laying, prices, sectors = state
    priced = " ".join([f"{dark},{light}" for dark, light in prices])
    return "\n".join([pattern_line(pattern), laying, priced, str(sectors)])


def pair_told(field):
    """The pair of prices that field tells, or None if it is not written so."""
    dark, _, light = field.partition(",")
    return (int(dark), int(light)) if is_decimal(dark) and is_decimal(light) else None


def prices_told(text, many):
    """The prices of many crossings that text, line 2, tells."""
    pairs = [pair_told(field) for field in text.split(" ")]
    for i, pair in enumerate(pairs[:many]):
        if pair is None:
            raise InvalidText(2, i)
    if len(pairs) != many:
        # The first field that is missing, or the first one too many.
        raise InvalidText(2, min(len(pairs), many))
    return tuple(pairs)


def line_of(lines, number):
    """The line with this number, which must be there."""
    if number >= len(lines):
        raise InvalidText(number, 0)
    return lines[number]


def read_state(text):
    """The state that text tells."""
    need(isinstance(text, str), "text")
    lines = text.split("\n")
    pattern = read_pattern(lines[0])
    many = len(pattern) // 4
    laying = line_of(lines, 1)
    if not is_laying(many, laying):
        raise InvalidText(1, 0)
    prices = prices_told(line_of(lines, 2), many)
    sectors = line_of(lines, 3)
    if not is_decimal(sectors):
        raise InvalidText(3, 0)
    if len(lines) > 4:
        raise InvalidText(4, 0)
    return (pattern, laying, prices, int(sectors))
