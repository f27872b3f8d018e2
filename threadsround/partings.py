"""Where the counts of trees of two patterns part."""

from threadsround.needs import need
from threadsround.onecounts import ones_by
from threadsround.patternchecker import is_pattern
from threadsround.ringrows import ring_row
from threadsround.trees import tree_count


def parts_at(pattern, other):
    """The least number of sectors for which the drawings have unlike numbers of trees, or None."""
    need(is_pattern(other), "other")
    mine, first = ring_row(pattern), tree_count(pattern)
    its, its_first = ring_row(other), tree_count(other)
    if (mine, first) == (its, its_first):
        return None
    sectors = 1
    # All counts alike would tell the same row and the same first count, so this ends.
    while ones_by(mine, first, sectors) == ones_by(its, its_first, sectors):
        sectors += 1
    return sectors


def same_rounds(pattern, other):
    """Whether the drawings have the same numbers of trees for all numbers of sectors."""
    return parts_at(pattern, other) is None
