import unittest

import reference_bench
from samples import FOUR, GREAT, NO_INTEGERS, ODD, THREE, TWO, StrictCase
from test_smoothings import NO_LETTERS
from test_states import STATE, wrong_states
from threadsround.bench import Bench
from threadsround.benchevents import is_event, is_log

# The letters that stand for no event's letter.
NO_EVENT_LETTERS = tuple(thing for thing in NO_LETTERS if thing != "X") + ("x", "DX", "Y", ("X",), "D\n")
NO_NUMBERS = tuple(thing for thing in NO_INTEGERS) + (-1, -GREAT, "5", (5,), [5])
EVENTS = (("lay", 0, "D"), ("lay", GREAT, "X"), ("price", 1, 0, GREAT), ("price", 0, 0, 0), ("sectors", 0), ("sectors", GREAT),
          ("smooth", 0), ("smooth", 7), ("put", 0, 0, "L"), ("put", 11, GREAT, "X"), ("petal", 0, -1, "D"), ("petal", 3, -GREAT, "L"),
          ("petal", GREAT, GREAT, "X"), ("draw", 1), ("draw", GREAT))


def wrong_events():
    """Each event with one part changed, one too few and one too many."""
    for event in EVENTS:
        for k in range(1, len(event)):
            bads = NO_EVENT_LETTERS if event[k] in ("D", "L", "X") else NO_NUMBERS
            if event[0] == "petal" and k == 2:
                bads = NO_INTEGERS
            if event[0] == "draw":
                bads = (*NO_NUMBERS, 0)
            for bad in bads:
                yield event[:k] + (bad,) + event[k + 1:]
            yield event[:k] + event[k + 1:]
        for more in (0, "D", None, ()):
            yield (*event, more)
        yield list(event)
        yield event[1:]
        yield (event,)
        for word in ("Lay", "LAY", " lay", "lays", "", None, True, 0, ("lay",), ["lay"], "undo", "cut", "nest", "letter", "number"):
            yield (word, *event[1:])


class BenchEventsTest(StrictCase):
    def test_events(self):
        for event in EVENTS:
            self.same((is_event(event), is_event(thing=event)), (True, True))

    def test_no_events(self):
        many = 0
        for thing in wrong_events():
            many += 1
            self.assertEqual(reference_bench.is_event(thing), False, thing)
            self.same(is_event(thing), False)
        self.assertGreater(many, 400)
        for thing in (*ODD, (), ("lay",), ("draw",), "lay 0 D", ("lay 0 D",), STATE, Bench(STATE), (Bench(STATE), 0, "D")):
            self.same(is_event(thing), False)
        # Each word with the parts of each other one.
        for event in EVENTS:
            for other in EVENTS:
                mixed = (event[0], *other[1:])
                self.same(is_event(mixed), reference_bench.is_event(mixed))

    def test_logs(self):
        for state in (STATE, reference_bench.start(TWO), reference_bench.start(FOUR)):
            for events in ((), EVENTS, EVENTS[:1], EVENTS * 3):
                self.same((is_log((state, events)), is_log(thing=(state, events))), (True, True))

    def test_no_logs(self):
        for thing in (*ODD, (), STATE, (STATE,), (STATE, (), ()), [STATE, ()], (STATE, []), (STATE, None), (STATE, EVENTS[0]),
                      ((), STATE), (STATE, list(EVENTS)), (THREE, ()), (STATE, STATE), (STATE, ""), Bench(STATE)):
            self.same(is_log(thing), False)
        for bad, _ in wrong_states():
            self.same(is_log((bad, EVENTS)), False)
        for bad in list(wrong_events())[::5]:
            self.same(is_log((STATE, (bad,))), False)
            self.same(is_log((STATE, (*EVENTS, bad, *EVENTS))), False)


if __name__ == "__main__":
    unittest.main()
