"""The row that counts the layings whose loops all go round."""

from threadsround.alikes import settled
from threadsround.determinants import web_value
from threadsround.distances import cut_of
from threadsround.kinds import is_count
from threadsround.needs import need
from threadsround.quotients import lowest, minus, over, times
from threadsround.rows import trimmed
from threadsround.webs import dark_web, light_web


def slopes_of(places, heights):
    """The divided differences of a polynomial with these heights at these places, all of them quotients."""
    slopes = list(heights)
    for k in range(1, len(slopes)):
        for j in reversed(range(k, len(slopes))):
            slopes[j] = over(minus(slopes[j], slopes[j - 1]), minus(places[j], places[j - k]))
    return slopes


def row_through(places, heights):
    """The row, of a degree below their number, with these heights at these places."""
    slopes = slopes_of(places, heights)
    numbers = []
    for place, slope in reversed(list(zip(places, slopes))):
        moved = [slope] + numbers
        for k, number in enumerate(numbers):
            moved[k] = minus(moved[k], times(number, place))
        numbers = moved
    return trimmed([top for top, _ in numbers])


def row_of_web(web, degree):
    """The row of at most this degree whose value at 2 - z - 1/z is that of the web at z."""
    # At z the place is 2 - z - 1/z, unlike for all these z.
    heights = [web_value(web, (z, 1)) for z in range(1, degree + 2)]
    places = [lowest(-(z - 1) * (z - 1), z) for z in range(1, degree + 2)]
    return row_through(places, heights)


def ring_row(pattern):
    """The ring row of pattern."""
    return row_of_web(dark_web(settled(pattern)), cut_of(pattern) // 2)


def light_row(pattern):
    """The row whose value at 2 - z - 1/z is that of the light web at z."""
    return row_of_web(light_web(settled(pattern)), cut_of(pattern) // 2)


def ring_count(pattern, many):
    """How many plain layings have just many loops, all of them going round."""
    need(is_count(many), "many")
    row = ring_row(pattern)
    if (many - cut_of(pattern)) % 2 == 1 or many // 2 >= len(row):
        return 0
    return row[many // 2]
