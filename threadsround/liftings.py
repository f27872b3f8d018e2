"""Ends modulo sectors, and patterns that are the same modulo sectors."""

from threadsround.faces import totals_of
from threadsround.kinds import is_integer
from threadsround.needs import need
from threadsround.patternchecker import first_apart, has_shape, is_pair_of, tells_line
from threadsround.shiftings import with_totals


def has_modular_line(sectors, thing, end):
    """Whether element end of thing tells a line modulo sectors, and the element that it leads to its way back."""
    if not tells_line(thing, end):
        return False
    to, shift = thing[end]
    return 0 <= shift < sectors and is_pair_of(thing[to], end, -shift % sectors)


def is_modular(sectors, thing):
    """Whether thing is ends modulo sectors."""
    if not has_shape(thing):
        return False
    if not all([has_modular_line(sectors, thing, end) for end in range(len(thing))]):
        return False
    if first_apart(thing) is not None:
        return False
    # This asks for n + 2 faces, too.
    wanted = [0] * (len(thing) // 4) + [1, sectors - 1]
    return sorted([total % sectors for total in totals_of(thing)]) == wanted


def lifted(sectors, ends):
    """A pattern that is, crossings being moved on, these ends modulo sectors."""
    need(is_integer(sectors) and sectors >= 3, "sectors")
    need(is_modular(sectors, ends), "ends")
    remainders = [total % sectors for total in totals_of(ends)]
    totals = [-1 if remainder == sectors - 1 else remainder for remainder in remainders]
    return with_totals([to for to, _ in ends], totals)
