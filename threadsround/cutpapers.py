"""Papers that show the cut: a way, and as many loops that go round."""

from threadsround.deeds import is_told
from threadsround.errors import InvalidPaper
from threadsround.layingkinds import is_plain
from threadsround.loops import windings_of
from threadsround.lows import lows_laying
from threadsround.ways import is_way, shortest_way


def cut_paper(pattern):
    """A paper ("cut", way, laying)."""
    return ("cut", shortest_way(pattern), lows_laying(pattern))


def lets_cut(pattern, thing):
    """The cut, shown by the paper thing; InvalidPaper if it shows nothing."""
    if not is_told(thing, "cut", 3):
        raise InvalidPaper("shape", -1)
    _, way, laying = thing
    if not is_way(pattern, way):
        raise InvalidPaper("way", 1)
    if not is_plain(len(pattern) // 4, laying):
        raise InvalidPaper("laying", 2)
    windings = windings_of(pattern, laying)
    going_round = len(windings) - windings.count(0)
    if going_round != len(way):
        raise InvalidPaper("fewer", going_round)
    return len(way)
