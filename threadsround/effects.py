"""What events do to states, and why they cannot happen."""

from threadsround.benchevents import is_event
from threadsround.drawings import drawn
from threadsround.errors import InvalidEvent
from threadsround.faces import numbers_at, totals_of
from threadsround.needs import is_crossing, is_end
from threadsround.petals import petal_on
from threadsround.puttings import can_put, put_in
from threadsround.smoothings import smooth_word, smoothed

MOST_CROSSINGS = 12


def names_there(pattern, event):
    """Whether all crossings, corners and ends that the event names are there."""
    word, first = event[0], event[1]
    if word in ("lay", "price", "smooth"):
        return is_crossing(pattern, first)
    if word == "put":
        return is_end(pattern, first) and is_end(pattern, event[2])
    return word != "petal" or is_end(pattern, first)


def smooth_refusal(state, crossing):
    """Why the crossing cannot be smoothed by the letter that it has, or None."""
    pattern, laying, _, _ = state
    if laying[crossing] == "X":
        return "across"
    word = smooth_word(pattern, crossing, laying[crossing])
    return None if word == "sound" else word


def growth_refusal(state, event):
    """Why the pattern cannot grow by a put, petal or draw, or None."""
    pattern, _, _, sectors = state
    word = event[0]
    if word == "put" and not can_put(pattern, event[1], event[2]):
        return "face"
    if word == "petal" and event[2] not in (0, totals_of(pattern)[numbers_at(pattern)[event[1]]]):
        return "shift"
    if word == "draw" and sectors % event[1] != 0:
        return "sectors"
    crossings = len(pattern) // 4
    grown = crossings * event[1] if word == "draw" else crossings + 1
    return "great" if grown > MOST_CROSSINGS else None


def refusal_in(state, event):
    """Why the event, any value, cannot happen in the state, or None."""
    if not is_event(event):
        return "event"
    if not names_there(state[0], event):
        return "crossing"
    if event[0] == "smooth":
        return smooth_refusal(state, event[1])
    return growth_refusal(state, event) if event[0] in ("put", "petal", "draw") else None


def after_naming(state, event):
    """The state after a lay, price or sectors."""
    pattern, laying, prices, sectors = state
    word, first = event[0], event[1]
    if word == "lay":
        return (pattern, laying[:first] + event[2] + laying[first + 1:], prices, sectors)
    if word == "price":
        return (pattern, laying, prices[:first] + (event[2:],) + prices[first + 1:], sectors)
    return (pattern, laying, prices, first)


def after_shaping(state, event):
    """The state after a smooth, put, petal or draw."""
    pattern, laying, prices, sectors = state
    word, first = event[0], event[1]
    if word == "smooth":
        less = smoothed(pattern, first, laying[first])
        return (less, laying[:first] + laying[first + 1:], prices[:first] + prices[first + 1:], sectors)
    if word == "draw":
        return (drawn(pattern, first), laying * first, prices * first, sectors // first)
    grown = put_in(pattern, first, event[2]) if word == "put" else petal_on(pattern, first, event[2])
    return (grown, laying + event[3], prices + ((0, 0),), sectors)


def after_event(state, event):
    """The state after the event, any value; InvalidEvent if it cannot happen."""
    reason = refusal_in(state, event)
    if reason is not None:
        raise InvalidEvent(event, reason)
    if event[0] in ("lay", "price", "sectors"):
        return after_naming(state, event)
    return after_shaping(state, event)
