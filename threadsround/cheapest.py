"""Cheapest layings of a manner."""

from threadsround.darkties import DarkTies
from threadsround.layingkinds import need_laying
from threadsround.manners import is_laying_of, need_manner
from threadsround.prices import need_prices, plain_price


def cheapest_laying(pattern, manner, prices):
    """A cheapest laying of the manner."""
    need_manner(manner)
    need_prices(pattern, prices)
    # Whichever crossings have D, there are as many, so those where it costs least more come first.
    costs = sorted([(dark - light, crossing) for crossing, (dark, light) in enumerate(prices)])
    sequence = [crossing for _, crossing in costs]
    return DarkTies(pattern, manner).laid(sequence)


def least_price(pattern, manner, prices):
    """The price of a cheapest laying of the manner."""
    return plain_price(prices, cheapest_laying(pattern, manner, prices))


def is_cheapest_one(pattern, manner, prices, thing):
    """Whether thing, any value, is a cheapest laying of the manner."""
    if not is_laying_of(pattern, manner, thing):
        return False
    return plain_price(prices, thing) == least_price(pattern, manner, prices)


def is_cheapest(pattern, manner, prices, laying):
    """Whether the laying, of the manner or not, is a cheapest one of the manner."""
    need_manner(manner)
    need_prices(pattern, prices)
    need_laying(pattern, laying)
    return is_cheapest_one(pattern, manner, prices, laying)
