"""Events of benches, and logs of them."""

from threadsround.kinds import is_count, is_integer, is_number
from threadsround.layingkinds import LAYING_LETTERS
from threadsround.states import is_state

# What stands behind each word.
FORMS = {
    "lay": ("number", "letter"),
    "price": ("number", "number", "number"),
    "sectors": ("number",),
    "smooth": ("number",),
    "put": ("number", "number", "letter"),
    "petal": ("number", "integer", "letter"),
    "draw": ("count",),
}


def is_part(kind, thing):
    """Whether thing is a number, an integer, a count of at least 1 or a letter, as kind tells."""
    if kind == "letter":
        return isinstance(thing, str) and thing in LAYING_LETTERS
    if kind == "integer":
        return is_integer(thing)
    return is_count(thing) if kind == "count" else is_number(thing)


def is_event(thing):
    """Whether thing is an event."""
    if not isinstance(thing, tuple) or thing == () or not isinstance(thing[0], str) or thing[0] not in FORMS:
        return False
    form = FORMS[thing[0]]
    return len(thing) == len(form) + 1 and all([is_part(kind, part) for kind, part in zip(form, thing[1:])])


def is_log(thing):
    """Whether thing is a log: a state, and a tuple of events."""
    if not isinstance(thing, tuple) or len(thing) != 2 or not is_state(thing[0]):
        return False
    return isinstance(thing[1], tuple) and all([is_event(event) for event in thing[1]])
