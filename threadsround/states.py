"""States: a pattern, a laying of it, its prices and the sectors."""

from threadsround.errors import InvalidPaper
from threadsround.kinds import is_number
from threadsround.layingkinds import is_laying
from threadsround.patternchecker import is_pattern
from threadsround.prices import is_prices


def lets_state(thing):
    """The number of crossings of the state thing; InvalidPaper if it is none."""
    if not isinstance(thing, tuple) or len(thing) != 4:
        raise InvalidPaper("shape", -1)
    pattern, laying, prices, sectors = thing
    if not is_pattern(pattern):
        raise InvalidPaper("pattern", 0)
    many = len(pattern) // 4
    if not is_laying(many, laying):
        raise InvalidPaper("laying", 1)
    if not is_prices(many, prices):
        raise InvalidPaper("prices", 2)
    if not is_number(sectors):
        raise InvalidPaper("sectors", 3)
    return many


def is_state(thing):
    """Whether thing is a state."""
    try:
        lets_state(thing)
    except InvalidPaper:
        return False
    return True


def start_state(pattern):
    """The state with the letter L and the price (0, 0) everywhere, in one sector."""
    many = len(pattern) // 4
    return (pattern, "L" * many, ((0, 0),) * many, 1)
