import random
import unittest

import reference_bench
from samples import FOUR, LEAF, ODD, THREE, TWO, StrictCase
from test_benchevents import wrong_events
from test_effects import STATE
from test_states import wrong_states
from threadsround.bench import Bench
from threadsround.errors import InvalidEvent
from threadsround.replaying import replayed


class ReplayingTest(StrictCase):
    def test_logs_of_benches(self):
        dice = random.Random(88)
        for pattern in (TWO, THREE, FOUR, LEAF) * 5:
            bench = Bench(reference_bench.start(pattern))
            for _ in range(25):
                event = reference_bench.some_event(dice, bench.now)
                if bench.refusal_of(event) is None:
                    bench.go(event)
                else:
                    self.assertRaises(InvalidEvent, bench.go, event)
            again = replayed(bench.log)
            self.assertIs(type(again), Bench)
            self.same((again.now, again.log, again.tally), (bench.now, bench.log, (len(bench), 0, 0)))
            self.same((again == bench, again is bench), (True, False))
            again.lay(0, "X")
            self.same(again == bench, False)

    def test_a_new_one_each_time(self):
        log = (STATE, (("smooth", 1), ("draw", 2)))
        one, other = replayed(log=log), replayed(log)
        one.undo(2)
        self.same((one.tally, other.tally, other.log), ((0, 0, 2), (2, 0, 0), log))
        self.same(replayed((STATE, ())) == Bench(STATE), True)

    def test_the_first_refused_event(self):
        for events, event, reason in (
                ((("lay", 2, "D"), ("smooth", 9)), ("lay", 2, "D"), "crossing"),
                ((("lay", 1, "D"), ("smooth", 1), ("lay", 1, "D")), ("smooth", 1), "apart"),
                ((("smooth", 1), ("lay", 1, "D")), ("lay", 1, "D"), "crossing"),
                ((("lay", 0, "D"), ("draw", 6), ("draw", 2)), ("draw", 2), "sectors"),
                ((("lay", 0, "D"), ("sectors", 0), ("draw", 6), ("draw", 2)), ("draw", 2), "great")):
            self.raises(InvalidEvent, {"event": event, "reason": reason}, replayed, (STATE, events))

    def test_refusals(self):
        for bad in (*ODD, (), STATE, (STATE,), (STATE, (), ()), [STATE, ()], (STATE, []), (STATE, ("lay", 0, "D")), Bench(STATE)):
            self.not_usable("log", replayed, bad)
            self.not_usable("log", replayed, log=bad)
        for bad, _ in wrong_states():
            self.not_usable("log", replayed, (bad, ()))
        for bad in wrong_events():
            self.not_usable("log", replayed, (STATE, (("lay", 0, "D"), bad)))


if __name__ == "__main__":
    unittest.main()
