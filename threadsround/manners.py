"""Manners of layings."""

from threadsround.distances import cut_of
from threadsround.layingkinds import is_plain, need_laying
from threadsround.loops import windings_of
from threadsround.needs import need
from threadsround.ringrows import ring_row
from threadsround.trees import tree_count

MANNERS = ("all", "few", "one")


def is_manner(thing):
    """Whether thing is "all", "few" or "one"."""
    return isinstance(thing, str) and thing in MANNERS


def need_manner(manner):
    """Refuse what is no manner."""
    need(is_manner(manner), "manner")


def is_plain_of(pattern, manner, laying):
    """Whether the plain laying is of the manner."""
    windings = windings_of(pattern, laying)
    if manner == "one":
        return len(windings) == 1
    if 0 in windings:
        return False
    return manner == "all" or len(windings) == 2 - cut_of(pattern) % 2


def is_laying_of(pattern, manner, thing):
    """Whether thing, any value, is a laying of the manner."""
    return is_plain(len(pattern) // 4, thing) and is_plain_of(pattern, manner, thing)


def is_of(pattern, manner, laying):
    """Whether the laying, perhaps with X, is of the manner."""
    need_manner(manner)
    need_laying(pattern, laying)
    return is_laying_of(pattern, manner, laying)


def manner_count(pattern, manner):
    """How many layings are of the manner."""
    need_manner(manner)
    if manner == "one":
        return tree_count(pattern)
    row = ring_row(pattern)
    if manner == "all":
        return sum(row)
    return row[0] if row[0] != 0 else row[1]
