"""Prices of letters and of layings."""

from threadsround.kinds import is_number
from threadsround.layingkinds import need_plain
from threadsround.needs import need


def is_price_pair(thing):
    """Whether thing is a pair of numbers."""
    return isinstance(thing, tuple) and len(thing) == 2 and is_number(thing[0]) and is_number(thing[1])


def is_prices(size, thing):
    """Whether thing is a tuple of size pairs of numbers."""
    return isinstance(thing, tuple) and len(thing) == size and all([is_price_pair(pair) for pair in thing])


def need_prices(pattern, prices):
    """Refuse what is no prices of pattern."""
    need(is_prices(len(pattern) // 4, prices), "prices")


def plain_price(prices, laying):
    """The sum of the prices of the letters of the plain laying."""
    return sum([dark if letter == "D" else light for (dark, light), letter in zip(prices, laying)])


def price_of(pattern, prices, laying):
    """The price of the plain laying."""
    need_prices(pattern, prices)
    need_plain(pattern, laying)
    return plain_price(prices, laying)
