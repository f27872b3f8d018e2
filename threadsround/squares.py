"""Counts of trees as squares times what is known of them."""

from math import isqrt

from threadsround.kinds import is_count
from threadsround.needs import need
from threadsround.onecounts import ones_by
from threadsround.ringrows import ring_row
from threadsround.rows import row_at
from threadsround.trees import tree_count


def factor_by(row, first, sectors):
    """The factor of (G9), for a pattern with this ring row and first trees."""
    less = row if row[0] != 0 else row[1:]
    factor = row[0] if row[0] != 0 else sectors * first
    return factor if sectors % 2 == 1 else factor * row_at(less, (4, 1))[0]


def square_told(pattern, sectors):
    """The pair (factor, root): the number of the trees of the drawing is factor times the square of root."""
    need(is_count(sectors), "sectors")
    row = ring_row(pattern)
    first = tree_count(pattern)
    factor = factor_by(row, first, sectors)
    return factor, isqrt(ones_by(row, first, sectors) // factor)
