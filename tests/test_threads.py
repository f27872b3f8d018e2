import unittest
from math import gcd

import reference
from samples import FEW, FOUR, GREAT, NO_INTEGERS, SOME, THREE, TWO, StrictCase
from test_layingkinds import NO_LAYINGS
from threadsround.threads import round_threads, thread_row, threads_of

WINDINGS = [(0,), (1,), (2, 1, 0), (3, 0, 0, 0), (6, 4, 4, 3, 2, 1, 1), (12,), (10 ** 29, 10 ** 28, 36, 0), (1,) * 40]


class ThreadsTest(StrictCase):
    def test_examples(self):
        self.same(threads_of(TWO, "X", 2), ((0, 7), (1, 6)))
        self.same(thread_row((2, 1, 0), 4), ((0, 4), (1, 3)))

    def test_threads_of(self):
        for pattern in SOME[::4]:
            for sectors in (1, 2, 3):
                whole = reference.drawing(pattern, sectors)
                for laying in reference.layings(pattern)[::7]:
                    threads = threads_of(pattern, laying, sectors)
                    self.same(threads, reference.loops(whole, laying * sectors))
                    self.same(threads, tuple(sorted(threads)))
        self.same(threads_of(pattern=THREE, laying="LX", sectors=1), ((0,), (2, 6, 5)))
        self.same((len(threads_of(TWO, "D", 36)), len(threads_of(TWO, "L", 36))), (2, 36))

    def test_rows_tell_the_windings_of_the_threads(self):
        for pattern in FEW:
            for laying in reference.layings(pattern)[::6]:
                windings = reference.windings(pattern, laying)
                for sectors in (1, 2, 3, 4):
                    if sectors * len(pattern) > 48:
                        continue
                    its = list(reference.windings(reference.drawing(pattern, sectors), laying * sectors))
                    row = tuple((winding, its.count(winding)) for winding in sorted(set(its)))
                    self.same(thread_row(windings, sectors), row)
                    self.same(round_threads(windings, sectors), len([t for t in its if t]))

    def test_great_windings(self):
        for windings in WINDINGS:
            for sectors in (1, 2, 3, 4, 12, 36, 10 ** 20):
                told = {}
                for t in windings:
                    key, many = (t // gcd(t, sectors), gcd(t, sectors)) if t else (0, sectors)
                    told[key] = told.get(key, 0) + many
                self.same(thread_row(windings, sectors), tuple(sorted(told.items())))
                self.same(round_threads(windings, sectors), sum(many for t, many in told.items() if t))
            self.same(round_threads(windings, 0), sum(windings))
        self.same((round_threads((2, 1), 2), round_threads((2, 1, 0), 3), round_threads((0, 0), 5)), (3, 2, 0))

    def test_refusals(self):
        no_counts = (*NO_INTEGERS, 0, -1, -GREAT)
        no_numbers = (*NO_INTEGERS, -1, -GREAT)
        self.refuses_in_order(threads_of, ("pattern", "laying", "sectors"), (THREE, "DL", 2), ((), NO_LAYINGS, no_counts))
        self.refuses_in_order(thread_row, ("windings", "sectors"), ((2, 1), 4), ((), no_counts))
        self.refuses_in_order(round_threads, ("windings", "sectors"), ((2, 1), 0), ((), no_numbers))
        self.not_usable("laying", threads_of, FOUR, "DL", 1)


if __name__ == "__main__":
    unittest.main()
