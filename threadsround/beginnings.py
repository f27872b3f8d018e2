"""How many layings begin with given letters."""

from threadsround.darkties import DarkTies
from threadsround.layingkinds import is_plain
from threadsround.manners import need_manner
from threadsround.needs import need


def is_beginning(pattern, thing):
    """Whether thing is a string of letters D and L, no longer than there are crossings."""
    return isinstance(thing, str) and is_plain(len(thing), thing) and len(thing) <= len(pattern) // 4


def begins_count(pattern, manner, begin):
    """How many layings of the manner begin with begin."""
    need_manner(manner)
    need(is_beginning(pattern, begin), "begin")
    ties = DarkTies(pattern, manner)
    begins = [begin] if ties.can_begin(begin) else []
    for _ in range(len(begin), len(pattern) // 4):
        begins = [start + letter for start in begins for letter in ("D", "L") if ties.can_begin(start + letter)]
    return len(begins)
