"""All drawings of a pattern, as an object."""

from threadsround.hearings import five_counts, heard_from
from threadsround.kinds import is_count
from threadsround.needs import need
from threadsround.onecounts import ones_by
from threadsround.orbits import unlike_count
from threadsround.partings import parts_at
from threadsround.patternchecker import is_pattern
from threadsround.ringrows import ring_row
from threadsround.rowturning import row_turned
from threadsround.trees import tree_count


class Rounds:
    """A pattern, and what is counted in its drawings."""

    def __init__(self, pattern):
        need(is_pattern(pattern), "pattern")
        self._pattern = pattern
        self._row = ring_row(pattern)
        self._first = tree_count(pattern)

    def __eq__(self, other):
        # These two tell all counts, and all counts tell these two.
        return isinstance(other, Rounds) and self._row == other._row and self._first == other._first

    def at_sectors(self, many):
        """The ring row of the drawing of many sectors."""
        need(is_count(many), "many")
        return row_turned(self._row, many)

    def trees_at(self, many):
        """The number of the trees of the drawing of many sectors."""
        need(is_count(many), "many")
        return ones_by(self._row, self._first, many)

    def unlike_at(self, sectors, many):
        """How many lots the counted layings with just many loops make, of unlike_count."""
        return unlike_count(self._pattern, sectors, many)

    def five(self):
        """The five counts."""
        return five_counts(self._pattern)

    def hears(self):
        """What is heard from the five counts."""
        return heard_from(self.five())

    def parts_from(self, other):
        """Where the counts part from those of another Rounds, or None."""
        need(isinstance(other, Rounds), "other")
        return parts_at(self._pattern, other._pattern)

    def through(self, *, begin=1):
        """The numbers of the trees of the drawings of begin, begin + 1 and so on sectors, without end."""
        need(is_count(begin), "begin")
        many = begin
        while True:
            yield ones_by(self._row, self._first, many)
            many += 1
