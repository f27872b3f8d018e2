"""Tables of webs, at a value."""

from threadsround.kinds import is_quotient
from threadsround.needs import need
from threadsround.quotients import minus, plus, power_of


def entries_of(tie, value):
    """What a tie adds to the table, as triples (line, column, quotient)."""
    one, other, shift = tie
    there = power_of(value, shift)
    back = power_of(value, -shift)
    return ((one, one, (1, 1)), (other, other, (1, 1)),
            (one, other, minus((0, 1), there)), (other, one, minus((0, 1), back)))


def table_of(web, value):
    """The table of web at value, a tuple of lines, without what belongs to firm places."""
    need(is_quotient(value) and value[0] != 0, "value")
    places, firm, ties = web
    lines = [[(0, 1)] * len(places) for _ in places]
    for tie in ties:
        for one, other, entry in entries_of(tie, value):
            lines[one][other] = plus(lines[one][other], entry)
    loose = [position for position in range(len(places)) if position not in firm]
    return tuple([tuple([lines[line][column] for column in loose]) for line in loose])
