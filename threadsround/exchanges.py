"""Exchanges: D taken from one crossing to another one."""

from threadsround.kinds import is_number
from threadsround.layingkinds import is_plain
from threadsround.manners import is_laying_of, need_manner
from threadsround.needs import need
from threadsround.prices import need_prices, plain_price


def is_place(laying, letter, thing):
    """Whether thing is a place in the laying that has this letter."""
    return is_number(thing) and thing < len(laying) and laying[thing] == letter


def swapped(laying, out, into):
    """The laying with L at out and D at into."""
    letters = list(laying)
    letters[out] = "L"
    letters[into] = "D"
    return "".join(letters)


def exchanged(laying, out, into):
    """The plain laying with L at out, which has D, and D at into, which has L."""
    need(isinstance(laying, str) and laying != "" and is_plain(len(laying), laying), "laying")
    need(is_place(laying, "D", out), "out")
    need(is_place(laying, "L", into), "into")
    return swapped(laying, out, into)


def places_with(laying, letter):
    """The list of the places that have this letter."""
    return [place for place, told in enumerate(laying) if told == letter]


def exchanges_by(pattern, manner, laying):
    """All exchanges that lead from the laying, of the manner, to one of the manner, ascending."""
    return tuple([(out, into) for out in places_with(laying, "D") for into in places_with(laying, "L")
                  if is_laying_of(pattern, manner, swapped(laying, out, into))])


def exchanges_of(pattern, manner, laying):
    """The set of all exchanges that lead from the laying to a laying of the manner."""
    need_manner(manner)
    need(is_laying_of(pattern, manner, laying), "laying")
    return exchanges_by(pattern, manner, laying)


def better_exchange(pattern, manner, prices, laying):
    """An exchange within the manner that leads to a cheaper laying, or None."""
    need_manner(manner)
    need_prices(pattern, prices)
    need(is_laying_of(pattern, manner, laying), "laying")
    price = plain_price(prices, laying)
    for out, into in exchanges_by(pattern, manner, laying):
        if plain_price(prices, swapped(laying, out, into)) < price:
            return (out, into)
    return None


def exchange_way(pattern, manner, one, other):
    """As few exchanges as can be that lead from one to other within the manner."""
    need_manner(manner)
    need(is_laying_of(pattern, manner, one), "one")
    need(is_laying_of(pattern, manner, other), "other")
    now = one
    way = []
    while now != other:
        # Whichever D of now is not in other, some D of other takes its place.
        steps = [(out, into) for out, into in exchanges_by(pattern, manner, now)
                 if other[out] == "L" and other[into] == "D"]
        way.append(steps[0])
        now = swapped(now, steps[0][0], steps[0][1])
    return tuple(way)
