import unittest

import reference
import reference_loops
from samples import FEW, FOUR, GREAT, LEAF, NO_INTEGERS, ODD, SOME, THREE, TWO, WIDE, StrictCase
from test_alikes import NO_PATTERNS
from test_layingkinds import NO_LAYINGS
from threadsround.errors import NotUsable
from threadsround.layingclasses import Laying
from threadsround.nests import nest_of
from threadsround.patternclasses import Pattern
from threadsround.penrows import pen_rows
from threadsround.threads import thread_row
from threadsround.uncrossings import uncrossed


class LayingTest(StrictCase):
    def test_examples(self):
        one = Laying(THREE, "XX")
        self.same((one ^ (0, "L")).letters_told, "LX")
        self.same(one.makes(2), ((3, 1),))

    def check(self, one, pattern, letters):
        """All that the object tells, beside the pattern and the letters."""
        self.assertIs(type(one), Laying)
        loops = reference.loops(pattern, letters)
        self.same((one.letters_told, one.is_plain_now), (letters, "X" not in letters))
        self.same((len(one), tuple(one), list(one)), (len(loops), loops, list(loops)))
        windings = reference.windings(pattern, letters)
        self.same(one.total_windings(), windings)
        self.same(one.makes(4), thread_row(windings, 4))
        self.assertTrue(reference_loops.are_heights(pattern, reference_loops.directed(pattern, letters), one.heights_told()))
        self.same(one.untwisted().letters_told, uncrossed(pattern, letters))
        self.same(one.pens(), pen_rows(pattern, letters, 1))
        self.same(one.pens(sectors=3), pen_rows(pattern, letters, 3))
        if "X" in letters or 0 in windings:
            self.not_usable("laying", one.nest)
        else:
            self.same(one.nest(), nest_of(pattern, letters))

    def test_methods(self):
        for pattern in [*SOME[::5], WIDE[0]]:
            for letters in reference.layings(pattern)[::5]:
                self.check(Laying(pattern, letters), pattern, letters)
        self.check(Laying(letters="DLX", pattern=FOUR), FOUR, "DLX")

    def test_pairs(self):
        for pattern in FEW[::3]:
            for letters in reference.layings(pattern)[::4]:
                one = Laying(pattern, letters)
                for crossing in range(len(letters)):
                    for letter in "DLX":
                        wanted = letters[:crossing] + letter + letters[crossing + 1:]
                        other = one ^ (crossing, letter)
                        self.check(other, pattern, wanted)
                        self.assertIsNot(other, one)
                self.check(one, pattern, letters)

    def test_exchanges(self):
        for pattern, letters in ((FOUR, "DLX"), (FOUR, "DDL"), (WIDE[0], "LDXD"), (WIDE[1], "LLDXD"), (TWO, "D")):
            one = Laying(pattern, letters)
            for out in range(-1, len(letters) + 1):
                for into in range(-1, len(letters) + 1):
                    inside = 0 <= min(out, into) and max(out, into) < len(letters)
                    if inside and letters[out] == "D" and letters[into] == "L":
                        wanted = "".join({out: "L", into: "D"}.get(c, letter) for c, letter in enumerate(letters))
                        self.check(one ^ (out, into), pattern, wanted)
                    else:
                        self.not_usable("other", lambda: one ^ (out, into))
            self.check(one, pattern, letters)

    def test_all_else_is_refused(self):
        one = Laying(FOUR, "DLX")
        for bad in (*ODD, GREAT, (0, 0), (0,), (0, 1, 2), [0, 1], [0, "D"], (0, "d"), (0, "DL"), (0, ""), (0, None),
                    (0, True), (False, 1), (True, "D"), (1, True), (-1, "D"), (3, "D"), (GREAT, "X"), (0, GREAT), (0, 3),
                    ("0", "D"), ("D", 0), (None, "D"), (0, ("D",)), (0, ["D"]), (0, "D", "L"), ((0, "D"),), ((0, 1),),
                    ("D", "D"), one, (0, one), (one, 1), (0, -1), (1, 0), (0, 2), (2, 1), (2, 2), (0.0, 1)):
            self.not_usable("other", lambda: one ^ bad)
        self.check(one, FOUR, "DLX")

    def test_it_does_not_change(self):
        one = Laying(THREE, "XD")
        for name in ("letters_told", "is_plain_now"):
            self.assertRaises(AttributeError, setattr, one, name, "DD")
        kept = one
        one ^= (0, "L")
        self.same((kept.letters_told, one.letters_told), ("XD", "LD"))
        two = kept ^ (1, "X") ^ (0, "D") ^ (1, "L") ^ (0, 1)
        self.same((kept.letters_told, two.letters_told), ("XD", "LD"))
        self.same(two == one, True)

    def test_equality(self):
        one = Laying(THREE, "DL")
        self.same((one == Laying(THREE, "DL"), one != Laying(THREE, "DL")), (True, False))
        self.same((one == Laying(THREE, "DD"), one != Laying(THREE, "DD")), (False, True))
        self.same(Laying(TWO, "D") == Laying(LEAF, "D"), False)
        self.same(Laying(TWO, "D") == Laying(TWO, "X"), False)
        for thing in (*ODD, "DL", (THREE, "DL"), (), Pattern(THREE), tuple(one), list(one)):
            self.same((one == thing, thing == one), (False, False))

    def test_refusals(self):
        for bad in (*NO_PATTERNS, Pattern(TWO), Laying(TWO, "D")):
            self.not_usable("pattern", Laying, bad, None)
            self.not_usable("pattern", Laying, pattern=bad, letters="D")
        for bad in (*NO_LAYINGS, Laying(THREE, "DD")):
            self.not_usable("letters", Laying, THREE, bad)
            self.not_usable("letters", Laying, pattern=THREE, letters=bad)
        one = Laying(THREE, "LD")
        for bad in (*NO_INTEGERS, 0, -1, -GREAT):
            self.not_usable("sectors", one.makes, bad)
            self.not_usable("sectors", one.makes, sectors=bad)
            self.not_usable("sectors", one.pens, sectors=bad)
        self.assertRaises(TypeError, lambda: one.pens(2))
        self.assertRaises(NotUsable, lambda: one ^ 0)
        self.same(one.makes(sectors=2), ((1, 3),))


if __name__ == "__main__":
    unittest.main()
