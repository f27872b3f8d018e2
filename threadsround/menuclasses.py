"""What can be laid of a pattern in so many sectors, as an object."""

from threadsround.distances import cut_of
from threadsround.kinds import is_integer, is_number
from threadsround.makings import laying_with
from threadsround.menupapers import lets_menu, menu_paper
from threadsround.menus import lay_threads, menu_of
from threadsround.needs import need
from threadsround.patternchecker import is_pattern
from threadsround.timesround import lay_times


class Menu:
    """A pattern and its sectors, 0 being the band, with the menu of both."""

    def __init__(self, pattern, sectors):
        need(is_pattern(pattern), "pattern")
        need(is_number(sectors), "sectors")
        self._pattern = pattern
        self._sectors = sectors
        self._cut = cut_of(pattern)
        self._pairs = menu_of(pattern, sectors)

    @property
    def cut_told(self):
        """The cut of the pattern."""
        return self._cut

    @property
    def sectors_told(self):
        """The sectors."""
        return self._sectors

    def __len__(self):
        return len(self._pairs)

    def __iter__(self):
        return iter(self._pairs)

    def __contains__(self, x):
        return is_integer(x) and x in [many for many, _ in self._pairs]

    def __eq__(self, other):
        return isinstance(other, Menu) and self._pattern == other._pattern and self._sectors == other._sectors

    def lay(self, many):
        """A laying that makes just many threads, of lay_threads."""
        return lay_threads(self._pattern, self._sectors, many)

    def lay_windings(self, windings):
        """A laying with these windings, of laying_with."""
        return laying_with(self._pattern, windings)

    def lay_times(self, times):
        """A laying whose threads go round so many times, of the function lay_times."""
        return lay_times(self._pattern, self._sectors, times)

    def why(self, many):
        """The paper of menu_paper."""
        return menu_paper(self._pattern, self._sectors, many)

    def judge(self, many, thing):
        """What lets_menu tells of the paper thing."""
        return lets_menu(self._pattern, self._sectors, many, thing)

    def with_sectors(self, sectors):
        """A new Menu of the same pattern."""
        return Menu(self._pattern, sectors)
