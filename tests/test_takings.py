import unittest
from itertools import permutations

import reference
from samples import FEW, FOUR, FOURS, GREAT, LEAF, NO_INTEGERS, NO_TUPLES, ONES, SOME, THREE, THREES, TWO, TWOS, StrictCase
from threadsround.alikes import least_writing
from threadsround.drawings import drawn
from threadsround.errors import NotUsable
from threadsround.petals import petal_on
from threadsround.puttings import put_in
from threadsround.shiftings import with_totals
from threadsround.smoothings import smoothed
from threadsround.strands import strand_pattern
from threadsround.takings import built_up, lets_down, single_patterns, taken_down


class TakingsTest(StrictCase):
    def check_down(self, pattern):
        steps = taken_down(pattern)
        self.assertIs(type(steps), tuple)
        self.assertEqual(len(steps), len(pattern) // 4 - 1)
        now = pattern
        for step in steps:
            self.assertIs(type(step), tuple)
            crossing, letter = step
            self.assertEqual(reference.smooth_word(now, crossing, letter), "sound")
            now = smoothed(now, crossing, letter)
        self.assertEqual(len(now), 4)
        self.same(lets_down(pattern, steps), now)

    def test_taken_down(self):
        for pattern in [*SOME, *TWOS[::5], *FOURS]:
            self.check_down(pattern)
        self.check_down(drawn(FOUR, 12))
        self.check_down(strand_pattern(7, (1, 2, 3, 4, 5, 6) * 6))
        for pattern in ONES:
            self.same(taken_down(pattern=pattern), ())

    def test_lets_down(self):
        for thing in NO_TUPLES:
            self.invalid("shape", -1, lets_down, THREE, thing)
        self.invalid("shape", -1, lets_down, TWO, [])
        self.same(lets_down(TWO, ()), TWO)
        self.same(lets_down(pattern=THREE, thing=((0, "D"),)), smoothed(THREE, 0, "D"))
        for bad in (*NO_INTEGERS, 0, [0, "D"], (0,), (0, "D", 0), (2, "D"), (-1, "D"), (True, "D"), (False, "D"),
                    ("0", "D"), (0, "X"), (0, None), (0, 0), (0, "DL"), (0, ""), ((0,), "D"), (GREAT, "L")):
            self.invalid("step", 0, lets_down, THREE, (bad,))
            self.invalid("step", 1, lets_down, THREE, ((0, "D"), bad))
        self.invalid("smooth", 0, lets_down, THREE, ((0, "L"),))
        self.invalid("smooth", 0, lets_down, THREE, ((0, "L"), None))
        self.invalid("step", 1, lets_down, THREE, ((0, "D"), (1, "D")))
        self.invalid("smooth", 1, lets_down, THREE, ((0, "D"), (0, "D")))
        self.invalid("smooth", 0, lets_down, TWO, ((0, "L"),))
        self.invalid("more", 2, lets_down, THREE, ())
        self.invalid("more", 3, lets_down, FOUR, ())
        crossing, letter = taken_down(FOUR)[0]
        self.invalid("more", 2, lets_down, FOUR, ((crossing, letter),))

    def test_each_two_steps_are_judged_in_turn(self):
        pairs = [(c, letter) for c in range(4) for letter in "DLX"]
        for pattern in THREES[::12]:
            for one in pairs:
                for other in pairs:
                    self.check_judged(pattern, (one, other))

    def check_judged(self, pattern, steps):
        now = pattern
        for k, (crossing, letter) in enumerate(steps):
            if 4 * crossing >= len(now) or letter == "X":
                return self.invalid("step", k, lets_down, pattern, steps)
            if reference.smooth_word(now, crossing, letter) != "sound":
                return self.invalid("smooth", k, lets_down, pattern, steps)
            now = smoothed(now, crossing, letter)
        return self.same(lets_down(pattern, steps), now)

    def test_built_up(self):
        self.same(built_up(TWO, ()), TWO)
        for pattern in FEW:
            corners = next(face[:2] for face in reference.faces(pattern) if len(face) > 1)
            put = put_in(pattern, *corners)
            self.same(built_up(pattern, (("put", *corners),)), put)
            middle = reference.faces(pattern)[reference.totals(pattern).index(1)][0]
            self.same(built_up(pattern=pattern, steps=(("petal", middle, 1),)), petal_on(pattern, middle, 1))
            both = (("put", *corners), ("petal", 4 * (len(pattern) // 4), 0))
            self.same(built_up(pattern, both), petal_on(put, len(pattern), 0))

    def test_steps_refused(self):
        good = ("petal", 0, 0)
        for bad in NO_TUPLES:
            self.not_usable("steps", built_up, TWO, bad)
            self.not_usable("steps", built_up, pattern=TWO, steps=bad)
        for bad in (*NO_INTEGERS, 5, (), "put", ["put", 1, 3], ("put",), ("put", 1), ("put", 1, 3, 0), ("petal", 0), ("petal", 0, 0, 0),
                    ("put", 1, 1), ("put", 0, 1), ("put", True, 3), ("put", 1, 99), ("petal", 0, 5), ("petal", 0, True),
                    ("petal", 0, False), ("petal", -1, 0), ("petal", 99, 0), ("smooth", 0, "D"), (0, 1, 3), (None, 1, 3),
                    ("Put", 1, 3), ("nest", 1, 3), ("nest", TWO, 0, 2), (("put",), 1, 3)):
            self.raises(NotUsable, {"word": "steps", "at": 0}, built_up, TWO, (bad,))
            self.raises(NotUsable, {"word": "steps", "at": 2}, built_up, LEAF, (good, good, bad, None))

    def test_single_patterns(self):
        pairs = ((-1, 0), (-1, 1), (0, -1), (0, 1), (1, -1), (1, 0))
        self.same(single_patterns(), tuple(((1, a), (0, -a), (3, b), (2, -b)) for a, b in pairs))
        self.same(set(single_patterns()) <= set(ONES), True)

    def test_the_written_kinds_of_three_are_all_there_are(self):
        """They were grown by puts and petals; here every plane joining of twelve ends is gone through instead."""
        kinds = set()
        for lines in reference.matchings(list(range(12))):
            bare = [None] * 12
            for one, other in lines:
                bare[one], bare[other] = (other, 0), (one, 0)
            if len(reference.crossings_with(bare, 0)) < 3 or len(reference.faces(bare)) != 5:
                continue
            for inner, outer in permutations(range(5), 2):
                totals = [(k == inner) - (k == outer) for k in range(5)]
                pattern = with_totals([to for to, _ in bare], totals)
                self.same(reference.fault(pattern), None)
                kinds.add(least_writing(pattern))
        self.assertEqual(kinds, {least_writing(pattern) for pattern in THREES})
        self.assertEqual(len(kinds), len(THREES))

    def test_each_pattern_is_built_of_a_single_one(self):
        """All patterns of two crossings, and the written kinds of three, are reached by puts and petals."""
        level = {least_writing(pattern) for pattern in single_patterns()}
        self.assertEqual(level, {least_writing(pattern) for pattern in ONES})
        for wanted in ({least_writing(pattern) for pattern in TWOS}, {least_writing(pattern) for pattern in THREES}):
            grown = set()
            for pattern in level:
                for one in range(len(pattern)):
                    for step in [("petal", one, shift) for shift in (-1, 0, 1)] + \
                            [("put", one, other) for other in range(len(pattern))]:
                        try:
                            grown.add(least_writing(built_up(pattern, (step,))))
                        except NotUsable:
                            pass
            self.assertEqual(grown, wanted)
            level = grown


if __name__ == "__main__":
    unittest.main()
