"""A live bench: a state, the events that led to it, and events still to come."""

from threadsround.benchevents import is_event
from threadsround.distances import cut_of
from threadsround.effects import after_event, refusal_in
from threadsround.errors import InvalidEvent, NothingToUndo
from threadsround.kinds import is_count
from threadsround.needs import need
from threadsround.reports import price_in, threads_in, windings_in
from threadsround.ringrows import ring_row
from threadsround.states import is_state


class Bench:
    """A first state, the events that have happened, and the states that these led to."""

    def __init__(self, state):
        need(is_state(state), "state")
        self._first = state
        self._events = ()
        self._states = (state,)
        self._refused = 0
        self._undone = 0

    @property
    def now(self):
        """The state now."""
        return self._states[len(self._events)]

    @property
    def log(self):
        """The first state, and the tuple of the events that are not undone."""
        return (self._first, self._events)

    @property
    def tally(self):
        """How many events are in the log, were refused, and were undone."""
        return (len(self._events), self._refused, self._undone)

    def __len__(self):
        return len(self._events)

    def __iter__(self):
        return iter(self._events)

    def __contains__(self, x):
        return is_event(x) and x in self._events

    def __eq__(self, other):
        return isinstance(other, Bench) and self._first == other._first and self._events == other._events

    def lay(self, crossing, letter):
        """Give the crossing the letter."""
        self.go(("lay", crossing, letter))

    def set_price(self, crossing, dark, light):
        """Give the crossing the price (dark, light)."""
        self.go(("price", crossing, dark, light))

    def set_sectors(self, many):
        """Make the sectors many."""
        self.go(("sectors", many))

    def smooth(self, crossing):
        """Smooth the crossing by its letter."""
        self.go(("smooth", crossing))

    def put(self, corner, other, letter):
        """Put a crossing with this letter in between two corners."""
        self.go(("put", corner, other, letter))

    def petal(self, end, shift, letter):
        """Put a crossing with a petal, and this letter, on the line at end."""
        self.go(("petal", end, shift, letter))

    def draw(self, many):
        """Make many sectors one."""
        self.go(("draw", many))

    def go(self, event):
        """Make the event, any value, happen; or count it as refused, and raise InvalidEvent."""
        reason = self.refusal_of(event)
        if reason is not None:
            self._refused += 1
            raise InvalidEvent(event, reason)
        after = self.tried(event)
        self._states = (*self._states, after)
        self._events = (*self._events, event)

    def tried(self, event):
        """The state that the event would lead to."""
        return after_event(self.now, event)

    def refusal_of(self, event):
        """Why the event cannot happen now, or None."""
        return refusal_in(self.now, event)

    def _cut_back(self, steps):
        """Take back all events but the first so many."""
        self._events = self._events[:steps]
        self._states = self._states[:steps + 1]

    def do_all(self, events, *, keep=False):
        """Make the events happen up to the first refused one; unless keep, none of them then has happened."""
        need(isinstance(events, tuple), "events")
        need(isinstance(keep, bool), "keep")
        steps = len(self._events)
        try:
            for event in events:
                self.go(event)
        except InvalidEvent:
            if not keep:
                self._cut_back(steps)
            raise

    def undo(self, many=1):
        """Take back the last many events."""
        need(is_count(many), "many")
        steps = len(self._events)
        if many > steps:
            raise NothingToUndo(steps)
        self._cut_back(steps - many)
        self._undone += many

    def cut_now(self):
        """The cut."""
        return cut_of(self.now[0])

    def windings_now(self):
        """The windings of the laying."""
        return windings_in(self.now)

    def threads_now(self):
        """The threads that the laying makes, or None for 0 sectors."""
        return threads_in(self.now)

    def row_now(self):
        """The ring row."""
        return ring_row(self.now[0])

    def price_now(self):
        """The price of the laying, or None if it has an X."""
        return price_in(self.now)
