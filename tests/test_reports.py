import random
import unittest

import reference_bench
from samples import FOUR, LEAF, THREE, TWO, StrictCase
from test_effects import STATE, TWELVE
from threadsround.bench import Bench
from threadsround.reports import report_of


class ReportsTest(StrictCase):
    def test_beside_a_bench_and_the_second_version(self):
        without = [0, 0]
        for state in [STATE, *reference_bench.bench_states(random.Random(91), 30)]:
            report = report_of(state)
            bench = Bench(state)
            told = (len(state[1]), bench.cut_now(), state[3])
            self.same(report, (told, bench.windings_now(), bench.threads_now(), bench.row_now(), bench.price_now()))
            self.same(report, reference_bench.report(state))
            without[0] += report[2] is None
            without[1] += report[4] is None
        self.assertGreater(min(without), 20)

    def test_states_written_out(self):
        self.same(report_of(STATE), ((2, 3, 6), (1,), ((1, 1),), (1, 1), 5))
        self.same(report_of((THREE, "XX", STATE[2], 0)), ((2, 3, 0), (3,), None, (1, 1), None))
        self.same(report_of((THREE, "XX", STATE[2], 6)), ((2, 3, 6), (3,), ((1, 3),), (1, 1), None))
        self.same(report_of(state=(FOUR, "DLD", ((1, 0), (5, 0), (2, 0)), 4)), ((3, 4, 4), (1, 1, 1, 1), ((1, 4),), (0, 2, 1), 3))
        self.same(report_of((TWO, "L", ((0, 7),), 9)), ((1, 2, 9), (0,), ((0, 9),), (0, 1), 7))
        self.same(report_of((LEAF, "L", ((0, 0),), 1))[0], (1, 1, 1))
        self.same(report_of(TWELVE)[0], (12, 4, 1))


if __name__ == "__main__":
    unittest.main()
