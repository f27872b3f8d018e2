"""The webs of dark and of light faces, tied at the crossings."""

from threadsround.colours import corners_that_are, dark_faces
from threadsround.faces import faces_of, numbers_at, totals_of
from threadsround.kinds import is_integer_tuple, is_number


def is_number_set(thing):
    """Whether thing is an ascending tuple of numbers."""
    if not is_integer_tuple(thing) or not all([is_number(number) for number in thing]):
        return False
    return all([thing[k - 1] < thing[k] for k in range(1, len(thing))])


def is_tie(places, thing):
    """Whether thing is a triple of two positions in places and an integer."""
    if not is_integer_tuple(thing) or len(thing) != 3:
        return False
    return all([0 <= position < len(places) for position in thing[:2]])


def is_web(thing):
    """Whether thing is a web, of some pattern or not."""
    if not isinstance(thing, tuple) or len(thing) != 3:
        return False
    places, firm, ties = thing
    if not is_number_set(places) or places == () or not is_number_set(firm) or not isinstance(ties, tuple):
        return False
    return all([position < len(places) for position in firm]) and all([is_tie(places, tie) for tie in ties])


def lags_of(pattern):
    """For each corner the sum of the shifts of its face's walk from the first corner to it."""
    lags = [0] * len(pattern)
    for face in faces_of(pattern):
        lag = 0
        for corner in face:
            lags[corner] = lag
            lag += pattern[corner][1]
    return lags


def web_of(pattern, dark):
    """The web of the dark faces, or of the light ones."""
    totals = totals_of(pattern)
    places = [number for number, told in enumerate(dark_faces(pattern)) if told == dark]
    firm = [position for position, number in enumerate(places) if totals[number] != 0]
    numbers = numbers_at(pattern)
    lags = lags_of(pattern)
    ties = []
    for crossing in range(len(pattern) // 4):
        lesser, greater = corners_that_are(pattern, crossing, dark)
        ties.append((places.index(numbers[lesser]), places.index(numbers[greater]), lags[lesser] - lags[greater]))
    return (tuple(places), tuple(firm), tuple(ties))


def dark_web(pattern):
    """The web of the dark faces."""
    return web_of(pattern, True)


def light_web(pattern):
    """The web of the light faces."""
    return web_of(pattern, False)
