"""The ring row of a pattern, as an object."""

from threadsround.distances import cut_of
from threadsround.kinds import is_quotient
from threadsround.letterrows import letter_rows
from threadsround.means import mean_loops
from threadsround.needs import need
from threadsround.patternchecker import is_pattern
from threadsround.quotients import is_less, lowest
from threadsround.ringrows import ring_count, ring_row
from threadsround.roots import is_rising, roots_above
from threadsround.trees import tree_count


class Rings:
    """The ring row of a pattern, its cut and its trees."""

    def __init__(self, pattern):
        need(is_pattern(pattern), "pattern")
        self._pattern = pattern
        self._row = ring_row(pattern)
        self._cut = cut_of(pattern)
        self._trees = tree_count(pattern)

    @property
    def told_row(self):
        """The ring row."""
        return self._row

    @property
    def cut_told(self):
        """The cut."""
        return self._cut

    @property
    def trees_told(self):
        """The number of the trees."""
        return self._trees

    def __len__(self):
        return len(self._row)

    def __iter__(self):
        return iter(self._row)

    def __eq__(self, other):
        return isinstance(other, Rings) and self._row == other._row

    def by_letters(self, crossing):
        """The rows for D and for L at crossing."""
        return letter_rows(self._pattern, crossing)

    def share(self, many):
        """Which part of the layings counted has just many loops."""
        return lowest(ring_count(self._pattern, many), sum(self._row))

    def rises(self):
        """Whether the ring row is rising."""
        return is_rising(self._row)

    def between(self, low, high):
        """How many roots of the ring row are above low and at most high."""
        need(is_quotient(low), "low")
        need(is_quotient(high), "high")
        if not is_less(low, high):
            return 0
        return roots_above(self._row, low) - roots_above(self._row, high)

    def mean(self):
        """The mean of the numbers of loops."""
        return mean_loops(self._pattern)
