"""Papers that show with how many threads a pattern can be laid, and with how many it cannot."""

from threadsround.deeds import is_told
from threadsround.distances import cut_of
from threadsround.errors import InvalidPaper
from threadsround.layingkinds import is_laying
from threadsround.loops import windings_of
from threadsround.menus import can_lay, lay_threads, need_sectors_and_many
from threadsround.threads import round_threads
from threadsround.ways import is_way, shortest_way


def menu_paper(pattern, sectors, many):
    """A paper ("laid", laying), ("many", way) or ("unlike", way)."""
    if can_lay(pattern, sectors, many):
        return ("laid", lay_threads(pattern, sectors, many))
    return ("many" if many > cut_of(pattern) else "unlike", shortest_way(pattern))


def check_laid(pattern, sectors, many, laying):
    """Refuse a laying that does not make just many threads, all going round."""
    if not is_laying(len(pattern) // 4, laying):
        raise InvalidPaper("laying", 1)
    windings = windings_of(pattern, laying)
    if 0 in windings:
        raise InvalidPaper("small", windings.count(0))
    threads = round_threads(windings, sectors)
    if threads != many:
        raise InvalidPaper("threads", threads)


def check_way(pattern, sectors, many, word, way):
    """Refuse a way that does not show that the threads cannot be just many, for word "many" or "unlike"."""
    if not is_way(pattern, way):
        raise InvalidPaper("way", 1)
    if word == "many" and len(way) >= many:
        raise InvalidPaper("long", len(way))
    if word == "unlike" and sectors % 2 == 1:
        raise InvalidPaper("odd", -1)
    if word == "unlike" and (len(way) - many) % 2 == 0:
        raise InvalidPaper("like", len(way))


def lets_menu(pattern, sectors, many, thing):
    """True if the paper thing shows that there can be just many threads, False if it shows that there cannot."""
    need_sectors_and_many(sectors, many)
    if not any([is_told(thing, word, 2) for word in ("laid", "many", "unlike")]):
        raise InvalidPaper("shape", -1)
    word, shown = thing
    if word == "laid":
        check_laid(pattern, sectors, many, shown)
        return True
    check_way(pattern, sectors, many, word, shown)
    return False
