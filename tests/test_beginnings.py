import unittest
from itertools import product

import reference_choices
from samples import FOUR, GROWN, LEAF, MANY, NO_INTEGERS, ODD, ONES, THREE, TWO, StrictCase
from test_manners import MANNERS, NO_MANNERS
from test_ringrows import STRANDS
from threadsround.beginnings import begins_count
from threadsround.lists import layings_of
from threadsround.manners import manner_count


class BeginningsTest(StrictCase):
    def test_examples(self):
        self.same((begins_count(FOUR, "all", "D"), begins_count(FOUR, "one", "D")), (2, 0))

    def test_each_beginning(self):
        for pattern in [*MANY[::3], *ONES, TWO, THREE, FOUR, LEAF, *GROWN[:12:3]]:
            for manner in MANNERS:
                layings = reference_choices.layings(pattern, manner)
                self.same(begins_count(pattern, manner, ""), manner_count(pattern, manner))
                for length in range(len(pattern) // 4 + 1):
                    for letters in product("DL", repeat=length):
                        begin = "".join(letters)
                        wanted = len([laying for laying in layings if laying.startswith(begin)])
                        self.same(begins_count(pattern, manner, begin), wanted)

    def test_beside_layings_of(self):
        for pattern in [*MANY[1::9], *STRANDS, *GROWN[12::3]]:
            for manner in MANNERS:
                layings = list(layings_of(pattern, manner))
                for laying in layings[::3]:
                    for length in range(len(laying) + 1):
                        begin = laying[:length]
                        self.same(begins_count(pattern, manner, begin), len([x for x in layings if x.startswith(begin)]))
                    self.same(begins_count(begin=laying, manner=manner, pattern=pattern), 1)

    def test_refusals(self):
        no_begins = (*[thing for thing in ODD if thing not in ("", "D", "DL")], *[x for x in NO_INTEGERS if x not in ("", "D")],
                     "X", "DX", "XD", "DXL", "d", "D ", " D", "DLDL", "LLLL", ("D",), ["D"], "DL\n")
        self.refuses_in_order(begins_count, ("pattern", "manner", "begin"), (FOUR, "all", "DD"), ((), NO_MANNERS, no_begins))
        self.not_usable("begin", begins_count, TWO, "all", "DL")
        self.not_usable("begin", begins_count, TWO, "all", "LL")


if __name__ == "__main__":
    unittest.main()
