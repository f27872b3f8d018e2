"""What a state tells."""

from threadsround.distances import cut_of
from threadsround.layingkinds import is_plain
from threadsround.loops import windings_of
from threadsround.prices import plain_price
from threadsround.ringrows import ring_row
from threadsround.threads import thread_row


def windings_in(state):
    """The windings of the laying."""
    return windings_of(state[0], state[1])


def threads_in(state):
    """The threads that the laying makes in the drawing of the sectors, or None for 0 sectors."""
    sectors = state[3]
    return None if sectors == 0 else thread_row(windings_in(state), sectors)


def price_in(state):
    """The price of the laying, or None if it has an X."""
    _, laying, prices, _ = state
    return plain_price(prices, laying) if is_plain(len(laying), laying) else None


def report_of(state):
    """The triple (crossings, cut, sectors), the windings, the threads, the ring row and the price."""
    pattern, laying, _, sectors = state
    told = (len(laying), cut_of(pattern), sectors)
    return (told, windings_in(state), threads_in(state), ring_row(pattern), price_in(state))
