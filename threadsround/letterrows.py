"""The ring row, parted by the letter at a crossing."""

from threadsround.alikes import settled
from threadsround.distances import cut_of
from threadsround.needs import is_crossing, need
from threadsround.ringrows import row_of_web
from threadsround.rows import added, multiplied
from threadsround.webs import dark_web


def letter_rows(pattern, crossing):
    """The rows that count the layings with D at crossing, and those with L."""
    need(is_crossing(pattern, crossing), "crossing")
    places, firm, ties = dark_web(settled(pattern))
    degree = cut_of(pattern) // 2
    whole = row_of_web((places, firm, ties), degree)
    # A laying has D where its tie is used, so those with L are all that there are without this tie.
    without = row_of_web((places, firm, ties[:crossing] + ties[crossing + 1:]), degree)
    return added(whole, multiplied((-1,), without)), without
