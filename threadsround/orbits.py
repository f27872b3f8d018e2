"""Counts of layings of drawings by the turnings that keep them, and up to turning."""

from threadsround.distances import cut_of
from threadsround.kinds import is_count
from threadsround.needs import need
from threadsround.onecounts import one_count
from threadsround.roundcounts import round_count


def divisors_of(many):
    """The ascending list of the divisors of many."""
    return [order for order in range(1, many + 1) if many % order == 0]


def need_order_and_many(sectors, order, many):
    """Refuse the first of these that is not as stated."""
    need(is_count(sectors), "sectors")
    need(is_count(order) and sectors % order == 0, "order")
    need(is_count(many), "many")


def just_kept_by(pattern, sectors, many):
    """For how many layings with just many loops each order is the greatest whose turnings keep them, by orders."""
    just = {}
    for order in reversed(divisors_of(sectors)):
        more = sum([just[greater] for greater in just if greater % order == 0])
        just[order] = kept_count(pattern, sectors, order, many) - more
    return just


def kept_count(pattern, sectors, order, many):
    """How many counted layings with just many loops are kept by the turnings of order."""
    need_order_and_many(sectors, order, many)
    # A laying so kept repeats one of the drawing of sectors // order, with as many loops.
    return round_count(pattern, sectors // order, many)


def just_kept(pattern, sectors, order, many):
    """For how many of these order is the greatest one whose turnings keep them."""
    need_order_and_many(sectors, order, many)
    return just_kept_by(pattern, sectors, many)[order]


def unlike_count(pattern, sectors, many):
    """How many lots the counted layings with just many loops make."""
    need_order_and_many(sectors, 1, many)
    just = just_kept_by(pattern, sectors, many)
    # A laying kept by the turnings of order, and no greater one, comes in sectors // order places.
    return sum([just[order] * order // sectors for order in divisors_of(sectors)])


def unlike_ones(pattern, sectors):
    """How many lots the trees of the drawing make."""
    need(is_count(sectors), "sectors")
    if cut_of(pattern) % 2 == 1:
        return unlike_count(pattern, sectors, 1)
    # No turning keeps one of these trees, so each lot has as many as there are sectors.
    return one_count(pattern, sectors) // sectors
