import random
import unittest

import reference_bench
from samples import FAR, GREAT, THREE, TWO, StrictCase
from test_effects import STATE, TWELVE
from test_eventtexts import NO_TEXTS
from threadsround.errors import InvalidRow, InvalidText
from threadsround.patterntexts import pattern_line
from threadsround.statetexts import read_state, state_line

LINES = (pattern_line(THREE), "DX", "1,2 30,0", "6")


def text_of(*lines):
    return "\n".join(lines)


class StateTextsTest(StrictCase):
    def wrong(self, line, field, text):
        self.raises(InvalidText, {"line": line, "field": field}, read_state, text)

    def test_there_and_back(self):
        great = (FAR[1], "DXL", ((GREAT, 0), (0, GREAT), (1, 10)), GREAT)
        for state in [STATE, TWELVE, great, *reference_bench.bench_states(random.Random(90), 25)]:
            pattern, laying, prices, sectors = state
            text = state_line(state)
            self.same(text.split("\n"), [pattern_line(pattern), laying, " ".join(f"{a},{b}" for a, b in prices), str(sectors)])
            self.same(read_state(text), state)
            self.same(read_state(text=state_line(state=state)), state)
        self.same(read_state(text_of(*LINES)), (THREE, "DX", ((1, 2), (30, 0)), 6))
        self.same(state_line(read_state(text_of(*LINES))), text_of(*LINES))

    def test_line_0(self):
        for text, field in (("", 0), ("\n", 0), (" " + LINES[0], 0), (LINES[0] + " ", 8), (LINES[0].replace("4-1", "4-01"), 2)):
            self.wrong(0, field, text)
            self.wrong(0, field, text_of(text, *LINES[1:]))
            self.wrong(0, field, text_of(text, "?", "?", "?", "?"))
        for line, word in (("1+1", "shape"), ("0+1 0-1 3-1 2+1", "end"), ("1+1 0+1 3-1 2+1", "back"), ("1+1 0-1 3+1 2-1", "totals")):
            self.raises(InvalidRow, {"row": word}, read_state, text_of(line, "?"))

    def test_line_1(self):
        for bad in ("", "D", "DXL", "dx", "D ", " DX", "DX ", "DY", "D,X", "D X"):
            self.wrong(1, 0, text_of(LINES[0], bad))
            self.wrong(1, 0, text_of(LINES[0], bad, *LINES[2:]))
            self.wrong(1, 0, text_of(LINES[0], bad, "?", "?", "?"))

    def test_line_2(self):
        for bad in ("", "1", "1,", ",2", ",", "1,2,3", "1;2", "01,2", "1,02", "-1,2", "1,-2", "-0,0", "+1,2", "1,+2", "1.0,2", "D,L", "(1,2)",
                    "1, 2"):
            if " " not in bad:
                self.wrong(2, 1, text_of(*LINES[:2], f"1,2 {bad}"))
                self.wrong(2, 1, text_of(*LINES[:2], f"1,2 {bad} 3,4", "?", "?"))
            self.wrong(2, 0, text_of(*LINES[:2], f"{bad} 1,2", "?"))
        self.wrong(2, 1, text_of(*LINES[:2], "1,2", "6"))
        self.wrong(2, 2, text_of(*LINES[:2], "1,2 3,4 5,6", "6"))
        self.wrong(2, 2, text_of(*LINES[:2], "1,2 3,4 ", "6"))
        self.wrong(2, 1, text_of(*LINES[:2], "1,2  3,4", "6"))
        self.wrong(2, 0, text_of(*LINES[:2], " 1,2 3,4", "6"))
        self.wrong(2, 1, text_of(pattern_line(TWO), "D", "1,2 ?", "6"))
        self.wrong(2, 2, text_of(*LINES[:2], "1,2 3,4 ? ?", "6"))

    def test_line_3(self):
        for bad in ("", " ", "-1", "-0", "+6", "06", "6 ", " 6", "six", "6,0", "6 6", "D", "1.0"):
            self.wrong(3, 0, text_of(*LINES[:3], bad))
            self.wrong(3, 0, text_of(*LINES[:3], bad, "?"))
        self.same(read_state(text_of(*LINES[:3], "0"))[3], 0)

    def test_lines_missing_and_too_many(self):
        for many in (1, 2, 3):
            self.wrong(many, 0, text_of(*LINES[:many]))
        for more in ("", "6", LINES[0]):
            self.wrong(4, 0, text_of(*LINES, more))
            self.wrong(4, 0, text_of(*LINES, more, more))

    def test_refusals(self):
        for bad in (*NO_TEXTS, LINES, list(LINES), STATE):
            self.not_usable("text", read_state, bad)
            self.not_usable("text", read_state, text=bad)


if __name__ == "__main__":
    unittest.main()
