"""A laying of a pattern as an object that does not change."""

from threadsround.directions import directed
from threadsround.heights import heights_of
from threadsround.layingkinds import LAYING_LETTERS, is_laying, is_plain
from threadsround.loops import loops_of, windings_of
from threadsround.needs import is_crossing, need
from threadsround.nests import nest_of
from threadsround.patternchecker import is_pattern
from threadsround.penrows import pen_rows
from threadsround.threads import thread_row
from threadsround.uncrossings import uncrossed


def lettered(letters, crossing, letter):
    """The letters with this one at crossing."""
    return letters[:crossing] + letter + letters[crossing + 1:]


def relettered(pattern, letters, change):
    """The letters after (crossing, letter) or an exchange (out, into), or None for all else."""
    if not isinstance(change, tuple) or len(change) != 2 or not is_crossing(pattern, change[0]):
        return None
    first, second = change
    if second in LAYING_LETTERS:
        return lettered(letters, first, second)
    if is_crossing(pattern, second) and letters[first] == "D" and letters[second] == "L":
        return lettered(lettered(letters, first, "L"), second, "D")
    return None


class Laying:
    """A pattern with the letters of a laying of it."""

    def __init__(self, pattern, letters):
        need(is_pattern(pattern), "pattern")
        need(is_laying(len(pattern) // 4, letters), "letters")
        self._pattern = pattern
        self._letters = letters
        self._loops = loops_of(pattern, letters)

    @property
    def letters_told(self):
        """The letters."""
        return self._letters

    @property
    def is_plain_now(self):
        """Whether no letter is X."""
        return is_plain(len(self._letters), self._letters)

    def __len__(self):
        return len(self._loops)

    def __iter__(self):
        return iter(self._loops)

    def __eq__(self, other):
        return isinstance(other, Laying) and self._pattern == other._pattern and self._letters == other._letters

    def __xor__(self, other):
        letters = relettered(self._pattern, self._letters, other)
        need(letters is not None, "other")
        return Laying(self._pattern, letters)

    def total_windings(self):
        """The windings of all loops."""
        return windings_of(self._pattern, self._letters)

    def makes(self, sectors):
        """The threads in the drawing of sectors, as thread_row tells them."""
        return thread_row(self.total_windings(), sectors)

    def heights_told(self):
        """The heights of the faces, by the directions in which all loops lead."""
        return heights_of(self._pattern, directed(self._pattern, self._letters))

    def nest(self):
        """The loops from the middle to the outside, where all go round and no letter is X."""
        return nest_of(self._pattern, self._letters)

    def untwisted(self):
        """A new Laying without X."""
        return Laying(self._pattern, uncrossed(self._pattern, self._letters))

    def pens(self, *, sectors=1):
        """The threads in the drawing of sectors, told by sectors."""
        return pen_rows(self._pattern, self._letters, sectors)
