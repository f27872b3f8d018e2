"""Prices of the layings of drawings."""

from threadsround.cheapest import cheapest_laying, least_price
from threadsround.distances import cut_of
from threadsround.drawings import drawn
from threadsround.kinds import is_count
from threadsround.lists import layings_of
from threadsround.loops import loops_of
from threadsround.manners import need_manner
from threadsround.needs import need
from threadsround.prices import need_prices, plain_price
from threadsround.rows import trimmed
from threadsround.rowturning import row_turned


def need_drawn_prices(pattern, sectors, manner, prices):
    """Refuse the first of these that is not as stated."""
    need(is_count(sectors), "sectors")
    need_manner(manner)
    need_prices(pattern, prices)


def round_price(pattern, sectors, manner, prices):
    """The price of a cheapest laying of the manner in the drawing."""
    need_drawn_prices(pattern, sectors, manner, prices)
    # One sector is laid in the manner, the others in the manner "all".
    return least_price(pattern, manner, prices) + (sectors - 1) * least_price(pattern, "all", prices)


def keeping_price(pattern, sectors, manner, prices):
    """How much more the layings of the manner cost that are alike in all sectors, or None if there are none."""
    least = round_price(pattern, sectors, manner, prices)
    # Repeated, a small loop becomes as many as there are sectors.
    if manner == "one" and sectors > 1 and cut_of(pattern) % 2 == 0:
        return None
    return sectors * least_price(pattern, manner, prices) - least


def cheapest_row(pattern, prices):
    """The row that counts the cheapest layings of the manner "all" by their loops."""
    price = least_price(pattern, "all", prices)
    counts = [0] * (cut_of(pattern) // 2 + 1)
    for laying in layings_of(pattern, "all"):
        if plain_price(prices, laying) == price:
            counts[len(loops_of(pattern, laying)) // 2] += 1
    return trimmed(counts)


def round_cheapest(pattern, sectors, prices):
    """The row of cheapest_row for the drawing."""
    need(is_count(sectors), "sectors")
    return row_turned(cheapest_row(pattern, prices), sectors)


def drawn_cheapest(pattern, sectors, manner, prices):
    """A cheapest laying of the manner in the drawing."""
    need_drawn_prices(pattern, sectors, manner, prices)
    return cheapest_laying(drawn(pattern, sectors), manner, prices * sectors)
