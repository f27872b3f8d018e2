import unittest
from itertools import product
from math import gcd

import reference
import reference_loops
from samples import FOUR, GREAT, LEAF, MANY, NO_INTEGERS, ODD, THREE, TWO, WIDE, StrictCase
from threadsround.errors import NotLayable
from threadsround.timesround import can_times, is_times, lay_times, part_by, times_x

NO_TIMES = (True, None, 0, 1, "", (), [], (1, 1), [(1, 1)], ((1,),), ((1, 1, 1),), ([1, 1],), ((0, 1),), ((1, 0),),
            ((-1, 1),), ((1, -1),), ((True, 1),), ((1, True),), ((2, 1), (1, 1)), ((1, 1), (1, 2)), ((1, 1), (1, 1)),
            ((1, 1), None), (None,), (("1", 1),), ((1, None),), (((1, 1),),), ((1, 1), (3, 1), (2, 1)), ((1.0, 1),))


def part(sectors, many):
    """The greatest divisor of sectors that divides a power of many."""
    return max(d for d in range(1, sectors + 1) if sectors % d == 0 and many ** d % d == 0)


def all_times(most):
    """All ascending tuples of pairs whose rounds sum up to at most most."""
    found = []
    for counts in product(*[range(most // r + 1) for r in range(1, most + 1)]):
        if 0 < sum((k + 1) * n for k, n in enumerate(counts)) <= most:
            found.append(tuple((k + 1, n) for k, n in enumerate(counts) if n))
    return found


def refusal(cut, sectors, times):
    """The word and the number by which lay_times refuses, or None."""
    whole = sum(r * n for r, n in times)
    if whole > cut:
        return "many", whole
    if (cut - whole) % 2:
        return "unlike", whole
    return block(sectors, times)


def block(sectors, times):
    blocks = [r for r, n in times if n % part(sectors, r)]
    return ("blocks", blocks[0]) if blocks else None


class TimesRoundTest(StrictCase):
    def test_examples(self):
        self.same((part_by(12, 2), part_by(12, 5)), (4, 1))
        self.same((can_times(TWO, 2, ((2, 1),)), can_times(TWO, 3, ((2, 1),))), (False, True))
        self.same((times_x(2, ((2, 2),)), lay_times(FOUR, 2, ((2, 2),))), (3, "XXX"))

    def test_part_by(self):
        for sectors in range(1, 40):
            for many in range(1, 40):
                self.same(part_by(sectors, many), part(sectors, many))
        big = 2 ** 40 * 3 ** 20 * 10007
        for many, wanted in ((2, 2 ** 40), (6, 2 ** 40 * 3 ** 20), (10007 * 4, 2 ** 40 * 10007), (5, 1), (1, 1),
                             (30, 2 ** 40 * 3 ** 20), (10007, 10007), (big, big), (GREAT, gcd(big, GREAT))):
            self.same(part_by(big, many), wanted)
        self.same(part_by(sectors=10 ** 29, many=10), 10 ** 29)
        self.same(part_by(10 ** 29, 2), 2 ** 29)

    def test_is_times(self):
        for thing in (((1, 1),), ((1, 1), (2, 1)), ((1, 5), (3, 2), (4, 1)), ((GREAT, GREAT),), ((7, 1), (8, 1))):
            self.same(is_times(thing), True)
        for thing in (*NO_TIMES, *ODD):
            self.same(is_times(thing), False)
        self.same(is_times(thing=((2, 3),)), True)

    def test_beside_all_layings(self):
        for pattern in MANY[::4] + WIDE:
            cut = reference.cut(pattern)
            for sectors in (1, 2, 3, 4, 6, 9, 12):
                fewest = {}
                for laying, windings in reference_loops.all_windings(pattern):
                    if 0 not in windings:
                        made = tuple(sorted(reference_loops.threads(windings, sectors).items()))
                        fewest[made] = min(laying.count("X"), fewest.get(made, len(laying)))
                for times in all_times(cut + 1):
                    self.same(can_times(pattern, sectors, times), times in fewest)
                    wrong = refusal(cut, sectors, times)
                    self.assertEqual(wrong is None, times in fewest)
                    if wrong is not None:
                        self.raises(NotLayable, {"word": wrong[0], "at": wrong[1]}, lay_times, pattern, sectors, times)
                        continue
                    self.same(times_x(sectors, times), fewest[times])
                    laying = lay_times(pattern, sectors, times)
                    self.assertEqual((len(laying), laying.count("X")), (len(pattern) // 4, fewest[times]))
                    its = reference_loops.threads(reference.windings(pattern, laying), sectors)
                    self.assertEqual(tuple(sorted(its.items())), times)

    def test_times_x(self):
        for sectors in (1, 2, 3, 4, 6, 8, 12, 36):
            for times in all_times(9):
                wrong = block(sectors, times)
                if wrong is None:
                    wanted = sum(r * n - n // part(sectors, r) for r, n in times)
                    self.same(times_x(sectors, times), wanted)
                else:
                    self.raises(NotLayable, {"word": "blocks", "at": wrong[1]}, times_x, sectors, times)
        self.raises(NotLayable, {"word": "blocks", "at": 2}, times_x, 6, ((1, 1), (2, 3), (3, 1)))
        self.raises(NotLayable, {"word": "blocks", "at": 3}, times_x, 6, ((1, 1), (2, 2), (3, 1)))
        self.same(times_x(10 ** 29, ((10, 10 ** 29),)), 10 ** 30 - 1)

    def test_the_order_of_refusals(self):
        for pattern, times, word, at in ((TWO, ((2, 2),), "many", 4), (TWO, ((1, 1),), "unlike", 1),
                                         (TWO, ((2, 1),), "blocks", 2), (THREE, ((2, 1),), "unlike", 2),
                                         (THREE, ((2, 2),), "many", 4), (THREE, ((1, 1), (2, 1)), "blocks", 2),
                                         (LEAF, ((GREAT, GREAT),), "many", GREAT * GREAT)):
            self.raises(NotLayable, {"word": word, "at": at}, lay_times, pattern, 2, times)
            self.same(can_times(pattern, 2, times), False)

    def test_refusals(self):
        no_counts = (*NO_INTEGERS, 0, -1, -GREAT)
        self.refuses_in_order(part_by, ("sectors", "many"), (12, 2), (no_counts, no_counts))
        self.refuses_in_order(times_x, ("sectors", "times"), (2, ((2, 2),)), (no_counts, NO_TIMES))
        for function in (can_times, lay_times):
            self.refuses_in_order(function, ("pattern", "sectors", "times"), (FOUR, 2, ((2, 2),)), ((), no_counts, NO_TIMES))


if __name__ == "__main__":
    unittest.main()
