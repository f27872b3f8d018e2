"""A pattern as an object that never changes."""

from threadsround.faces import faces_of
from threadsround.kinds import is_integer_tuple
from threadsround.mirrors import inside_out, mirrored
from threadsround.namings import moved_on, spun
from threadsround.needs import need
from threadsround.patternchecker import is_pattern
from threadsround.patterntexts import pattern_line, read_pattern
from threadsround.strands import strand_pattern


class Pattern:
    """An object of one pattern."""

    def __init__(self, pattern):
        need(is_pattern(pattern), "pattern")
        self._told = pattern
        self._faces = faces_of(pattern)
        self._line = pattern_line(pattern)

    @property
    def told(self):
        """The pattern."""
        return self._told

    @property
    def faces_told(self):
        """The faces, by their numbers."""
        return self._faces

    @property
    def as_line(self):
        """The line of the pattern."""
        return self._line

    def __len__(self):
        return len(self._told[::4])

    def __iter__(self):
        return iter(self._faces)

    def __contains__(self, x):
        return is_integer_tuple(x) and x in self._faces

    def __eq__(self, other):
        return isinstance(other, Pattern) and self._told == other._told

    def spin(self, crossing, *, quarters=1):
        """A new Pattern, of spun."""
        return Pattern(spun(self._told, crossing, quarters))

    def move(self, crossing, *, by=1):
        """A new Pattern, of moved_on."""
        return Pattern(moved_on(self._told, crossing, by))

    def mirror(self):
        """A new Pattern, of mirrored."""
        return Pattern(mirrored(self._told))

    def turn_in(self):
        """A new Pattern, of inside_out."""
        return Pattern(inside_out(self._told))

    @classmethod
    def of_strands(cls, width, word):
        """The Pattern of strand_pattern."""
        return cls(strand_pattern(width, word))

    @classmethod
    def read_line(cls, text):
        """The Pattern of read_pattern."""
        return cls(read_pattern(text))
