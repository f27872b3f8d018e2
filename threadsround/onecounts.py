"""Counts of the trees of drawings."""

from threadsround.kinds import is_count
from threadsround.needs import need
from threadsround.ringrows import ring_row
from threadsround.rowturning import row_turned
from threadsround.trees import tree_count


def ones_by(row, first, sectors):
    """The number of the trees of the drawing of sectors, for a pattern with this ring row and first trees."""
    if row[0] != 0:
        return row_turned(row, sectors)[0]
    # The cut is even: a tree closes up in all sectors but one, in each of which it may be any of the pattern's trees.
    return sectors * first * row_turned(row[1:], sectors)[0] // row[1]


def one_count(pattern, sectors):
    """The number of the trees of the drawing of sectors."""
    need(is_count(sectors), "sectors")
    return ones_by(ring_row(pattern), tree_count(pattern), sectors)


def one_counts(pattern, most):
    """The tuple of the numbers of the trees of the drawings of 1 to most sectors."""
    need(is_count(most), "most")
    row = ring_row(pattern)
    first = tree_count(pattern)
    return tuple([ones_by(row, first, sectors) for sectors in range(1, most + 1)])
