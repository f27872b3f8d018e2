"""Papers that show that a laying is a cheapest one, or that it is not."""

from threadsround.cheapest import least_price
from threadsround.deeds import is_told
from threadsround.errors import InvalidPaper
from threadsround.exchanges import better_exchange, is_place, swapped
from threadsround.manners import is_laying_of, need_manner
from threadsround.needs import need
from threadsround.prices import need_prices, plain_price


def choice_paper(pattern, manner, prices, laying):
    """The paper ("cheapest",), or a paper ("better", out, into)."""
    better = better_exchange(pattern, manner, prices, laying)
    return ("cheapest",) if better is None else ("better", *better)


def check_better(pattern, manner, prices, laying, out, into):
    """Refuse what is no exchange within the manner that leads to a cheaper laying."""
    if not is_place(laying, "D", out):
        raise InvalidPaper("out", 1)
    if not is_place(laying, "L", into):
        raise InvalidPaper("into", 2)
    other = swapped(laying, out, into)
    if not is_laying_of(pattern, manner, other):
        raise InvalidPaper("manner", -1)
    more = plain_price(prices, other) - plain_price(prices, laying)
    if more >= 0:
        raise InvalidPaper("price", more)


def lets_choice(pattern, manner, prices, laying, thing):
    """True if the paper thing shows that the laying is a cheapest one, False if it shows that it is not."""
    need_manner(manner)
    need_prices(pattern, prices)
    need(is_laying_of(pattern, manner, laying), "laying")
    if is_told(thing, "cheapest", 1):
        more = plain_price(prices, laying) - least_price(pattern, manner, prices)
        if more > 0:
            raise InvalidPaper("dearer", more)
        return True
    if not is_told(thing, "better", 3):
        raise InvalidPaper("shape", -1)
    check_better(pattern, manner, prices, laying, thing[1], thing[2])
    return False
