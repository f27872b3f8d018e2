"""Turn rows, by which a row is turned."""

from threadsround.kinds import is_number, is_quotient
from threadsround.needs import need
from threadsround.quotients import minus, plus, times
from threadsround.rows import added, multiplied


def turn_row(many):
    """The turn row with the number many."""
    need(is_number(many), "many")
    # Read backwards, the rows are the same again: the one before number 0 is number 1.
    last, row = (0, 1), ()
    for _ in range(many):
        further = added(multiplied((2, -1), row), (0, 2))
        last, row = row, added(further, multiplied((-1,), last))
    return row


def turned_value(value, many):
    """The value of the turn row with the number many at value."""
    need(is_quotient(value), "value")
    need(is_number(many), "many")
    last, now = value, (0, 1)
    for _ in range(many):
        further = plus(times(minus((2, 1), value), now), times((2, 1), value))
        last, now = now, minus(further, last)
    return now
