import unittest

import corpus
import reference
from samples import FOUR, LEAF, NO_TUPLES, SOME, THREE, THREES, TWO, TWOS, StrictCase
from threadsround.errors import InvalidRow, InvalidText
from threadsround.namings import moved_on
from threadsround.patterntexts import pattern_line, read_pattern


class PatternTextsTest(StrictCase):
    def bad_field(self, field, text):
        self.raises(InvalidText, {"line": 0, "field": field}, read_pattern, text)

    def bad_row(self, word, text):
        self.raises(InvalidRow, {"row": word}, read_pattern, text)

    def test_examples(self):
        self.same(pattern_line(THREE), "1+1 0-1 4-1 5+0 2+1 3+0 7-1 6+1")
        self.bad_field(2, "1+1 0-1 3-0 2+0")

    def test_there_and_back(self):
        for pattern in [*SOME, *TWOS[::7]]:
            line = pattern_line(pattern)
            self.same(line.split(" "), [f"{to}{'-' if s < 0 else '+'}{abs(s)}" for to, s in pattern])
            self.same(read_pattern(line), pattern)
        for line, pattern in zip(corpus.THREES.strip().split("\n"), THREES):
            self.same((pattern_line(pattern), read_pattern(text=line)), (line, pattern))
        far = moved_on(FOUR, 1, 123456)
        self.same(read_pattern(pattern_line(far)), far)
        self.same(pattern_line(LEAF), "1+1 0-1 3+0 2+0")
        great = "1" + "0" * 40
        line = f"1+1 0-1 4-{great[:-1]}1 5-{great} 2+{great[:-1]}1 3+{great} 7-1 6+1"
        self.same(pattern_line(moved_on(THREE, 1, -10 ** 40)), line)
        self.same(read_pattern(line), moved_on(THREE, 1, -10 ** 40))

    def test_long_lines(self):
        from threadsround.strands import strand_pattern
        pattern = strand_pattern(37, tuple(range(1, 37)))
        self.same(read_pattern(pattern_line(pattern)), pattern)

    def test_spaces_and_newlines(self):
        line = pattern_line(TWO)
        self.bad_field(0, "")
        self.bad_field(0, " ")
        self.bad_field(0, " " + line)
        self.bad_field(4, line + " ")
        self.bad_field(1, line.replace(" ", "  ", 1))
        self.bad_field(3, line + "\n")
        self.bad_field(0, "\n" + line)
        self.bad_field(0, line.replace(" ", "\n"))
        self.bad_field(1, line.replace(" ", " \n", 1))
        self.bad_field(0, "\n")

    def test_fields(self):
        for bad in ("1", "+1", "1+", "+", "-", "11", "1 1", "01+1", "1+01", "1-01", "1-0", "1+00", "00+1", "1++1", "1+-1",
                    "1-+1", "1--1", "-1+1", "+1+1", "1+1+", "1+1+1", "1+1-1", "a+1", "1+a", "x", "1*1", "1,1", "1+1,",
                    "(1,1)", "1.0+1", "1+1.0", "1e1+1", "1_0+1", "1+1_0", "0x1+1", "D", "1+1\t", "1=1", "~", "-0+0"):
            if " " not in bad:
                self.bad_field(0, f"{bad} 0-1 3-1 2+1")
                self.bad_field(3, f"1+1 0-1 3-1 {bad}")
                self.bad_field(1, f"1+1 {bad} {bad} 2+1")
        self.bad_field(0, "1 1")
        self.bad_field(1, "1+1 0- 3-1 2+1 9")
        self.bad_field(4, "1+1 0-1 3-1 2+1 x")
        self.bad_field(2, "9+1 9+1 x 9+1")

    def test_rows(self):
        self.bad_row("shape", "1+1 0-1 3-1")
        self.bad_row("shape", "1+1")
        self.bad_row("shape", "1+1 0-1 3-1 2+1 0+0")
        self.bad_row("end", "0+1 0-1 3-1 2+1")
        self.bad_row("end", "4+1 0-1 3-1 2+1")
        self.bad_row("back", "1+1 0+1 3-1 2+1")
        self.bad_row("back", "1+1 0-2 3-1 2+1")
        self.bad_row("apart", "1+1 0-1 3-1 2+1 5+1 4-1 7-1 6+1")
        self.bad_row("faces", "2+0 3+0 0+0 1+0")
        self.bad_row("totals", "1+0 0+0 3+0 2+0")
        self.bad_row("totals", "1+2 0-2 3-2 2+2")

    def test_each_line_of_two_crossings_is_judged_as_the_reference_does(self):
        for pattern in TWOS[::31]:
            for e in range(8):
                other = tuple((to, shift + (k == e)) for k, (to, shift) in enumerate(pattern))
                self.bad_row(reference.fault(other)[0], pattern_line(other))

    def test_refusals(self):
        no_texts = tuple(thing for thing in NO_TUPLES if not isinstance(thing, str))
        self.refuses_in_order(read_pattern, ("text",), (pattern_line(TWO),), ((*no_texts, (), ("1+1",), TWO),))


if __name__ == "__main__":
    unittest.main()
