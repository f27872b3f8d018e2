"""Ring rows heard back from five counts of trees."""

from math import isqrt

from threadsround.kinds import is_count
from threadsround.needs import need
from threadsround.onecounts import ones_by
from threadsround.ringrows import ring_row, row_through
from threadsround.trees import tree_count

HEARD_SECTORS = (1, 2, 3, 4, 6)


def five_by(row, first):
    """The five counts for a ring row and first trees."""
    return tuple([ones_by(row, first, sectors) for sectors in HEARD_SECTORS])


def five_counts(pattern):
    """The numbers of the trees of the drawings of 1, 2, 3, 4 and 6 sectors."""
    return five_by(ring_row(pattern), tree_count(pattern))


def root_of(top, bottom):
    """The number whose square, times bottom, is nearest below top."""
    return isqrt(top // bottom)


def row_heard(heights):
    """The row, of a degree below their number, with these heights at 0 or 1, and so on, up to 4."""
    places = [(place, 1) for place in range(5 - len(heights), 5)]
    return row_through(places, [(height, 1) for height in heights])


def tells(row, first, counts):
    """Whether row, which begins with 0 for an even cut, has numbers of at least 1 and gives these counts."""
    less = row if row[:1] != (0,) else row[1:]
    if less == () or min(less) < 1:
        return False
    return five_by(row, first) == counts


def heard_odd(counts):
    """The row that for an odd cut would have to give these counts, if any does."""
    one, two, three, four, six = counts
    # Values at 0 to 4: turned by 2, 3, 4 and 6 the row has those at 4, 3, 2 and 1 in its number 0, too.
    return row_heard([one, root_of(six * one, two * three), root_of(four, two), root_of(three, one), two // one])


def heard_even(counts):
    """The row that for an even cut would have to give these counts, if any does."""
    one, two, three, four, six = counts
    heights = [root_of(six * one, two * three), root_of(four, 2 * two), root_of(three, 3 * one), two // (2 * one)]
    return (0,) + row_heard(heights)


def heard_from(counts):
    """The triple ("odd" or "even", row, first) that gives these five counts, or None."""
    need(isinstance(counts, tuple) and len(counts) == 5 and all([is_count(count) for count in counts]), "counts")
    # What is rounded on the way, or belongs to no row of integers, is found out when the counts are made again.
    row = heard_odd(counts)
    if tells(row, counts[0], counts):
        return ("odd", row, counts[0])
    row = heard_even(counts)
    return ("even", row, counts[0]) if tells(row, counts[0], counts) else None
