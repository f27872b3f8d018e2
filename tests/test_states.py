import random
import unittest

import reference_bench
from samples import FOUR, GREAT, LEAF, MANY, NO_INTEGERS, ODD, ONES, THREE, TWO, StrictCase
from test_alikes import NO_PATTERNS
from test_layingkinds import NO_LAYINGS
from test_prices import GOOD_PRICES, NO_PRICES
from threadsround.bench import Bench
from threadsround.patternclasses import Pattern
from threadsround.states import is_state, lets_state, start_state

STATE = (THREE, "DX", GOOD_PRICES, 6)
NO_SHAPES = (*ODD, (), list(STATE), STATE[:3], (*STATE, 0), THREE, (STATE,), "1234", [STATE])
NO_NUMBERS = (*NO_INTEGERS, -1, -GREAT, "6", (6,))


def wrong_states():
    """Pairs of a value that is no state and how it is refused: each word in its turn, with all later parts wrong, too."""
    for bad in NO_SHAPES:
        yield bad, ("shape", -1)
    parts = ((NO_PATTERNS, "pattern"), ((*NO_LAYINGS, "DXL", "D" * 3999), "laying"), (NO_PRICES, "prices"), (NO_NUMBERS, "sectors"))
    for place, (bads, word) in enumerate(parts):
        for bad in bads:
            yield STATE[:place] + (bad,) + STATE[place + 1:], (word, place)
            yield STATE[:place] + (bad,) + (None,) * (3 - place), (word, place)


class StatesTest(StrictCase):
    def test_each_word(self):
        for thing, (word, at) in wrong_states():
            self.invalid(word, at, lets_state, thing)
            self.same(is_state(thing), False)

    def test_states(self):
        for state in [STATE, *reference_bench.bench_states(random.Random(1), 20), (TWO, "L", ((GREAT, 0),), 0), (TWO, "X", ((0, 0),), GREAT)]:
            self.same((lets_state(state), is_state(state)), (len(state[0]) // 4, True))
        self.same((lets_state(thing=STATE), is_state(thing=STATE)), (2, True))
        for thing in (Pattern(THREE), Bench(STATE), Bench):
            self.invalid("shape", -1, lets_state, thing)

    def test_parts_of_other_patterns(self):
        self.invalid("laying", 1, lets_state, (FOUR, "DX", GOOD_PRICES, 6))
        self.invalid("prices", 2, lets_state, (FOUR, "DXL", GOOD_PRICES, 6))
        self.invalid("laying", 1, lets_state, (TWO, "DX", GOOD_PRICES, 6))
        self.invalid("pattern", 0, lets_state, (Pattern(THREE), "DX", GOOD_PRICES, 6))
        self.invalid("sectors", 3, lets_state, (THREE, "DX", GOOD_PRICES, True))

    def test_start_state(self):
        for pattern in [*MANY[::7], *ONES[::9], TWO, LEAF]:
            state = start_state(pattern)
            self.same(state, reference_bench.start(pattern))
            self.same(lets_state(state), len(pattern) // 4)
        self.same(start_state(pattern=THREE), (THREE, "LL", ((0, 0), (0, 0)), 1))


if __name__ == "__main__":
    unittest.main()
