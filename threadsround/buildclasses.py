"""A pattern that is built by deeds, which may be taken back."""

from threadsround.alikes import least_writing
from threadsround.deeds import after_deed
from threadsround.errors import NothingToUndo, NotUsable, PatternError
from threadsround.kinds import is_count
from threadsround.needs import need
from threadsround.patternchecker import is_pattern


class Building:
    """A first pattern, the deeds done to it, and what came of them."""

    def __init__(self, pattern):
        need(is_pattern(pattern), "pattern")
        self._patterns = (pattern,)
        self._deeds = ()

    @property
    def first_told(self):
        """The first pattern."""
        return self._patterns[0]

    @property
    def now_told(self):
        """The present pattern."""
        return self._patterns[len(self._deeds)]

    @property
    def deeds(self):
        """The tuple of the deeds."""
        return self._deeds

    def __len__(self):
        return len(self._deeds)

    def __eq__(self, other):
        return isinstance(other, Building) and self._patterns[0] == other._patterns[0] and self._deeds == other._deeds

    def _do(self, deed):
        """Do one deed, or raise and change nothing."""
        now = after_deed(self.now_told, deed)
        self._patterns = (*self._patterns, now)
        self._deeds = (*self._deeds, deed)

    def smooth(self, crossing, letter):
        """Do smoothed."""
        self._do(("smooth", crossing, letter))

    def put(self, corner, other):
        """Do put_in."""
        self._do(("put", corner, other))

    def petal(self, end, *, shift=0):
        """Do petal_on."""
        self._do(("petal", end, shift))

    def nest_in(self, other, place, corner):
        """Do nested, with the present pattern inside of other."""
        self._do(("nest", other, place, corner))

    def back(self, *, many=1):
        """Take back the last many deeds."""
        need(is_count(many), "many")
        steps = len(self._deeds)
        if many > steps:
            raise NothingToUndo(steps)
        self._patterns = self._patterns[:steps - many + 1]
        self._deeds = self._deeds[:steps - many]

    def least(self):
        """The least writing of the present pattern."""
        return least_writing(self.now_told)

    @classmethod
    def by_deeds(cls, pattern, deeds):
        """A new Building of pattern with these deeds done."""
        building = cls(pattern)
        need(isinstance(deeds, tuple), "deeds")
        for k, deed in enumerate(deeds):
            try:
                building._do(deed)
            except PatternError:
                raise NotUsable("deeds", k) from None
        return building
