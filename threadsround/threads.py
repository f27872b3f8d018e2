"""Threads: the loops of drawings."""

from math import gcd

from threadsround.drawings import drawn
from threadsround.keeps import repeated
from threadsround.kinds import is_count, is_number
from threadsround.layingkinds import need_laying
from threadsround.loops import loops_of
from threadsround.needs import need


def threads_of(pattern, laying, sectors):
    """The loops of the drawing of sectors for the laying repeated, ascending."""
    need_laying(pattern, laying)
    whole = drawn(pattern, sectors)
    return loops_of(whole, repeated(laying, sectors))


def thread_row(windings, sectors):
    """The ascending tuple of pairs (winding, how many) of the threads."""
    need(is_count(sectors), "sectors")
    found = {}
    for winding in windings:
        # For small loops this is the winding 0, sectors times.
        many = gcd(winding, sectors)
        found[winding // many] = found.get(winding // many, 0) + many
    return tuple(sorted(found.items()))


def round_threads(windings, sectors):
    """How many threads do not have the winding 0; for 0 sectors how many run on without end."""
    need(is_number(sectors), "sectors")
    return sum([gcd(winding, sectors) for winding in windings if winding > 0])
