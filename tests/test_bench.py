import random
import unittest

import reference
import reference_bench
from samples import FOUR, GREAT, LEAF, NO_INTEGERS, NO_TUPLES, ODD, THREE, TWO, StrictCase
from test_benchevents import wrong_events
from test_effects import STATE, TWELVE
from test_states import wrong_states
from threadsround.bench import Bench
from threadsround.buildclasses import Building
from threadsround.distances import cut_of
from threadsround.errors import InvalidEvent, NothingToUndo
from threadsround.states import start_state

NO_BOOLS = (None, 0, 1, "", "True", (), (True,), [], [True], -1, GREAT)


class Plain:
    """What a bench must tell, by lists of events and counts."""

    def __init__(self, state):
        self.states, self.events, self.refused, self.undone = [state], [], 0, 0

    def go(self, event):
        reason = reference_bench.refusal(self.states[-1], event)
        if reason is not None:
            self.refused += 1
            return reason
        self.states.append(reference_bench.after(self.states[-1], event))
        self.events.append(event)
        return None

    def undo(self, many):
        if many > len(self.events):
            return len(self.events)
        del self.states[len(self.states) - many:], self.events[len(self.events) - many:]
        self.undone += many
        return None

    def do_all(self, events, keep):
        """(event, reason) of the first refused one, or None."""
        many = len(self.events)
        for event in events:
            reason = self.go(event)
            if reason is not None:
                if not keep:
                    del self.states[many + 1:], self.events[many:]
                return event, reason
        return None


class BenchTest(StrictCase):
    def agrees(self, bench, plain):
        """The bench tells what the plain one has."""
        tally = (len(plain.events), plain.refused, plain.undone)
        self.same((bench.now, bench.log, bench.tally), (plain.states[-1], (plain.states[0], tuple(plain.events)), tally))
        self.same((len(bench), list(bench)), (len(plain.events), plain.events))

    def tells(self, bench):
        (_, cut, _), windings, threads, row, price = reference_bench.report(bench.now)
        self.same((bench.cut_now(), bench.windings_now(), bench.threads_now(), bench.row_now(), bench.price_now()),
                  (cut, windings, threads, row, price))

    def invalid_event(self, event, reason, function, *args, **named):
        self.raises(InvalidEvent, {"event": event, "reason": reason}, function, *args, **named)

    def test_examples(self):
        bench = Bench(start_state(THREE))
        bench.do_all((("lay", 0, "D"), ("sectors", 4), ("smooth", 1)))
        bench.undo(many=2)
        self.same((bench.tally, bench.threads_now()), ((1, 0, 2), ((1, 1),)))

    def test_a_long_history(self):
        dice = random.Random(87)
        for pattern in (TWO, THREE, FOUR, LEAF):
            bench, plain = Bench(reference_bench.start(pattern)), Plain(reference_bench.start(pattern))
            for turn in range(120):
                self.one_turn(dice, bench, plain)
                self.agrees(bench, plain)
                if turn % 6 == 0 and len(bench.now[1]) <= 8:
                    self.tells(bench)
            self.assertGreater(min(bench.tally), 5)

    def one_turn(self, dice, bench, plain):
        chance = dice.random()
        if chance < 0.12:
            many = dice.choice((1, 1, 2, 3, 40))
            steps = plain.undo(many)
            if steps is None:
                self.same(bench.undo(many), None)
            else:
                self.raises(NothingToUndo, {"steps": steps}, bench.undo, many)
        elif chance < 0.3:
            events = tuple(reference_bench.some_event(dice, bench.now) for _ in range(dice.randrange(4)))
            keep = dice.random() < 0.5
            refused = plain.do_all(events, keep)
            if refused is None:
                self.same(bench.do_all(events, keep=keep), None)
            else:
                self.invalid_event(*refused, bench.do_all, events, keep=keep)
        else:
            event = reference_bench.some_event(dice, bench.now)
            before = (bench.now, bench.tally)
            self.same(bench.refusal_of(event), reference_bench.refusal(bench.now, event))
            reason = plain.go(event)
            if reason is None:
                self.same(bench.tried(event), plain.states[-1])
                self.same((bench.now, bench.tally), before)
                self.same(bench.go(event), None)
            else:
                self.invalid_event(event, reason, bench.tried, event)
                self.same((bench.now, bench.tally), before)
                self.invalid_event(event, reason, bench.go, event)

    def test_each_method_is_go_of_its_event(self):
        cases = (("lay", (0, "X"), {"crossing": 0, "letter": "X"}, ("lay", 0, "X")),
                 ("set_price", (1, 8, 9), {"crossing": 1, "dark": 8, "light": 9}, ("price", 1, 8, 9)),
                 ("set_sectors", (12,), {"many": 12}, ("sectors", 12)),
                 ("smooth", (1,), {"crossing": 1}, ("smooth", 1)),
                 ("put", (3, 1, "X"), {"corner": 3, "other": 1, "letter": "X"}, ("put", 3, 1, "X")),
                 ("petal", (6, -1, "D"), {"end": 6, "shift": -1, "letter": "D"}, ("petal", 6, -1, "D")),
                 ("draw", (3,), {"many": 3}, ("draw", 3)))
        for name, args, named, event in cases:
            for by_name in (False, True):
                bench = Bench(STATE)
                method = getattr(bench, name)
                self.same(method(**named) if by_name else method(*args), None)
                self.same((bench.log, bench.now), ((STATE, (event,)), reference_bench.after(STATE, event)))
            for k, name_of in enumerate(named):
                for bad in (True, None, -5, "Y", (), [0]):
                    wrong = args[:k] + (bad,) + args[k + 1:]
                    told = (event[0], *wrong)
                    reason = reference_bench.refusal(STATE, told)
                    self.assertIsNotNone(reason)
                    bench = Bench(STATE)
                    self.invalid_event(told, reason, getattr(bench, name), *wrong)
                    self.invalid_event(told, reason, getattr(bench, name), **{**named, name_of: bad})
                    self.same((bench.log, bench.tally), ((STATE, ()), (0, 2, 0)))

    def test_the_very_event_is_kept(self):
        bench = Bench(STATE)
        for thing in ([1], ("lay", [0], "D"), {"lay": 0}, object(), ("smooth", 99)):
            try:
                bench.go(thing)
            except InvalidEvent as refusal:
                self.assertIs(refusal.event, thing)
        self.same(bench.tally, (0, 5, 0))

    def test_do_all(self):
        good, bad, last = ("lay", 0, "L"), ("smooth", 7), ("sectors", 3)
        bench = Bench(STATE)
        self.invalid_event(bad, "crossing", bench.do_all, (good, bad, last))
        self.same((bench.log, bench.now, bench.tally), ((STATE, ()), STATE, (0, 1, 0)))
        self.invalid_event(bad, "crossing", bench.do_all, (good, bad, last), keep=False)
        self.invalid_event(bad, "crossing", bench.do_all, events=(good, bad, last), keep=True)
        self.same((bench.log, bench.tally), ((STATE, (good,)), (1, 3, 0)))
        self.invalid_event(bad, "crossing", bench.do_all, (last, bad))
        self.same((bench.log, bench.tally), ((STATE, (good,)), (1, 4, 0)))
        self.same((bench.do_all(()), bench.do_all((), keep=True), bench.do_all((last, good))), (None, None, None))
        self.same((bench.log, bench.tally), ((STATE, (good, last, good)), (3, 4, 0)))
        self.invalid_event(bad, "crossing", bench.do_all, (bad, bad), keep=True)
        self.same(bench.tally, (3, 5, 0))
        self.assertRaises(TypeError, lambda: bench.do_all((), True))

    def test_do_all_refused(self):
        bench = Bench(STATE)
        bench.lay(0, "X")
        before = (bench.log, bench.tally)
        for bad in (*NO_TUPLES, [("lay", 0, "D")], Bench(STATE), bench):
            self.not_usable("events", bench.do_all, bad)
            self.not_usable("events", bench.do_all, keep=None, events=bad)
        for bad in NO_BOOLS:
            self.not_usable("keep", bench.do_all, (("lay", 0, "D"), None), keep=bad)
        self.same((bench.log, bench.tally), before)
        for bad in list(wrong_events())[::40]:
            self.invalid_event(bad, "event", bench.do_all, (bad,))

    def test_undo(self):
        bench = Bench(STATE)
        self.raises(NothingToUndo, {"steps": 0}, bench.undo)
        for letter in "XLD":
            bench.lay(1, letter)
        self.same((bench.undo(), bench.tally, bench.now[1]), (None, (2, 0, 1), "DL"))
        self.raises(NothingToUndo, {"steps": 2}, bench.undo, 3)
        self.raises(NothingToUndo, {"steps": 2}, bench.undo, many=GREAT)
        for bad in (*NO_INTEGERS, 0, -1, -GREAT):
            self.not_usable("many", bench.undo, bad)
            self.not_usable("many", bench.undo, many=bad)
        self.same((bench.tally, bench.log), ((2, 0, 1), (STATE, (("lay", 1, "X"), ("lay", 1, "L")))))
        self.same((bench.undo(2), bench.tally, bench.now), (None, (0, 0, 3), STATE))
        bench.draw(2)
        self.same((bench.tally, bench.now[3], len(bench.now[1])), ((1, 0, 3), 3, 4))

    def test_in_with_any_value(self):
        bench = Bench((*STATE[:3], 0))
        bench.do_all((("lay", 1, "D"), ("sectors", 1), ("petal", 0, 0, "L"), ("draw", 1)))
        for event in (("lay", 1, "D"), ("sectors", 1), ("petal", 0, 0, "L"), ("draw", 1)):
            self.same(event in bench, True)
        for thing in (*ODD, ("lay", True, "D"), ("lay", 0, "D"), ("sectors", True), ("petal", False, 0, "L"), ("petal", 0, False, "L"),
                      ["lay", 1, "D"], ("lay", 1), ("draw", True), ("smooth", 0), bench, bench.log, ("lay", 1.0, "D")):
            self.same(thing in bench, False)
        bench.undo()
        self.same((("draw", 1) in bench, ("draw", 1) in Bench(STATE)), (False, False))

    def test_equality(self):
        one, other = Bench(STATE), Bench(state=STATE)
        self.same((one == other, one != other), (True, False))
        one.lay(0, "X")
        self.same((one == other, one != other), (False, True))
        other.lay(0, "X")
        # What was refused or undone makes no difference.
        self.assertRaises(InvalidEvent, other.lay, 5, "X")
        other.smooth(1)
        other.undo()
        self.same((one == other, one.tally == other.tally), (True, False))
        # The same state now, by another log.
        third = Bench(one.now)
        self.same((third.now == one.now, third == one), (True, False))
        for thing in (*ODD, STATE, one.log, list(one), Building(THREE)):
            self.same((one == thing, thing == one), (False, False))

    def test_no_sectors_and_an_x(self):
        bench = Bench(STATE)
        self.same((bench.price_now(), bench.threads_now()), (5, ((1, 1),)))
        bench.set_sectors(0)
        bench.lay(0, "X")
        self.same((bench.threads_now(), bench.price_now()), (None, None))
        self.tells(bench)
        bench.set_sectors(35)
        bench.lay(0, "L")
        self.same(bench.price_now(), 6)
        self.tells(bench)
        self.tells(Bench(TWELVE))

    def test_forty_events(self):
        bench = Bench(STATE)
        for turn in range(40):
            bench.lay(turn % 2, "DLX"[turn % 3])
        self.same((len(bench), bench.tally), (40, (40, 0, 0)))
        bench.undo(39)
        self.same(bench.log, (STATE, (("lay", 0, "D"),)))

    def test_constructor_refused(self):
        for bad, _ in wrong_states():
            self.not_usable("state", Bench, bad)
            self.not_usable("state", Bench, state=bad)
        self.not_usable("state", Bench, Bench(STATE))
        for name in ("now", "log", "tally"):
            self.assertRaises(AttributeError, setattr, Bench(STATE), name, ())

    def test_two_benches_by_turns(self):
        one, other = Bench(STATE), Bench(start_state(LEAF))
        kept = one.log
        one.lay(0, "X")
        other.petal(0, 0, "D")
        self.same((kept, len(one), len(other)), ((STATE, ()), 1, 1))
        other.undo()
        one.set_sectors(5)
        self.same((one.now, other.now), ((THREE, "XL", STATE[2], 5), start_state(LEAF)))
        self.same((one.tally, other.tally), ((2, 0, 0), (0, 0, 1)))
        # Each bench of one state goes its own way.
        twin = Bench(STATE)
        twin.draw(6)
        self.same((len(twin.now[0]), len(one.now[0]), one.cut_now()), (48, 8, reference.cut(THREE)))
        self.same((twin.cut_now(), twin.row_now()[-1]), (cut_of(THREE), 1))


if __name__ == "__main__":
    unittest.main()
