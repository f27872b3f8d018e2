"""How many loops the layings have that the ring row counts."""

from threadsround.cutrows import loops_told
from threadsround.quotients import lowest
from threadsround.ringrows import ring_row


def mean_loops(pattern):
    """The mean of the numbers of loops, a quotient."""
    row = ring_row(pattern)
    return lowest(sum([loops * many for loops, many in loops_told(row)]), sum(row))


def likely_loops(pattern):
    """The set of the numbers of loops that most layings have."""
    row = ring_row(pattern)
    return tuple([loops for loops, many in loops_told(row) if many == max(row)])
