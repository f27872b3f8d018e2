"""With how many threads a pattern can be laid."""

from threadsround.distances import cut_of
from threadsround.errors import NotLayable
from threadsround.kinds import is_count, is_number
from threadsround.lows import lows_laying
from threadsround.makings import laying_with
from threadsround.meltings import melted_down
from threadsround.needs import need


def need_sectors_and_many(sectors, many):
    """Refuse the first of these two that is not as stated; sectors may be 0."""
    need(is_number(sectors), "sectors")
    need(is_count(many), "many")


def can_lay(pattern, sectors, many):
    """Whether some laying makes just many threads in the drawing of sectors, all going round."""
    need_sectors_and_many(sectors, many)
    cut = cut_of(pattern)
    return many <= cut and ((cut - many) % 2 == 0 or sectors % 2 == 1)


def fewest_x(pattern, sectors, many):
    """The fewest X of such a laying, 0 or 1."""
    need_sectors_and_many(sectors, many)
    cut = cut_of(pattern)
    if many > cut:
        raise NotLayable("many", many)
    if not can_lay(pattern, sectors, many):
        raise NotLayable("unlike", many)
    return (cut - many) % 2


def lay_threads(pattern, sectors, many):
    """A laying with as few X that makes just many threads in the drawing of sectors, all going round."""
    if fewest_x(pattern, sectors, many) == 0:
        return melted_down(pattern, lows_laying(pattern), many)
    # A loop of winding 2 makes one thread, as sectors is odd here.
    return laying_with(pattern, (2,) + (1,) * (many - 1))


def menu_of(pattern, sectors):
    """The pairs (many, fewest X) for all many that can be laid, ascending."""
    need(is_number(sectors), "sectors")
    counts = [many for many in range(1, cut_of(pattern) + 1) if can_lay(pattern, sectors, many)]
    return tuple([(many, fewest_x(pattern, sectors, many)) for many in counts])
