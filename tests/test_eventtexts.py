import unittest

from samples import GREAT, NO_INTEGERS, ODD, StrictCase
from test_benchevents import EVENTS, wrong_events
from threadsround.errors import InvalidText
from threadsround.eventtexts import event_line, read_event

GOOD = ("lay 0 D", "price 1 2 3", "sectors 0", "smooth 4", "put 1 2 L", "petal 3 -1 X", "draw 2")
NUMBER_PLACES = {"lay": (1,), "price": (1, 2, 3), "sectors": (1,), "smooth": (1,), "put": (1, 2), "petal": (1,), "draw": (1,)}
NO_TEXTS = tuple(thing for thing in (*ODD, *NO_INTEGERS) if not isinstance(thing, str))


class EventTextsTest(StrictCase):
    def wrong(self, field, text):
        self.raises(InvalidText, {"line": 0, "field": field}, read_event, text)

    def test_examples(self):
        self.same(event_line(("petal", 2, -1, "X")), "petal 2 -1 X")
        self.wrong(2, "price 0 05")

    def test_there_and_back(self):
        for event in (*EVENTS, ("petal", 0, -GREAT, "L"), ("petal", GREAT, 0, "L"), ("price", 10 ** 3900, 0, 10)):
            line = event_line(event)
            self.same(line, " ".join(str(part) for part in event))
            self.same(read_event(line), event)
            self.same(read_event(text=event_line(event=event)), event)
        for text in GOOD:
            self.same(event_line(read_event(text)), text)

    def test_numbers(self):
        for text in GOOD:
            fields = text.split(" ")
            for place in NUMBER_PLACES[fields[0]]:
                for bad in ("", "-1", "-0", "+1", "01", "00", "1.0", "1e1", "1_0", "D", "L", "one", "1,2", "0x1", "1\n", "\n1", "\t", "~",
                            "-" + "9" * 50, "0" * 50, "--1"):
                    self.wrong(place, " ".join(fields[:place] + [bad] + fields[place + 1:]))
                    # What is wrong first is told, whatever comes behind.
                    self.wrong(place, " ".join(fields[:place] + [bad] + ["?"] * 5))
                    self.wrong(place, " ".join(fields[:place] + [bad]))
                great = str(GREAT)
                self.same(read_event(" ".join(fields[:place] + [great] + fields[place + 1:]))[place], GREAT)
        self.wrong(1, "draw 0")
        self.same((read_event("sectors 0"), read_event("draw 1")), (("sectors", 0), ("draw", 1)))

    def test_shifts(self):
        for bad in ("-0", "+0", "+1", "01", "-01", "--1", "-", "", "1-", "- 1", "D", "-1.0", "-\n1"):
            self.wrong(2, f"petal 3 {bad} X")
        for shift in (0, 1, -1, 10, -10, GREAT, -GREAT):
            self.same(read_event(f"petal 3 {shift} X"), ("petal", 3, shift, "X"))

    def test_letters(self):
        for text, place in (("lay 0 D", 2), ("put 1 2 L", 3), ("petal 3 -1 X", 3)):
            fields = text.split(" ")
            for bad in ("", "d", "x", "DL", "Y", "0", "D\n", "\nD", "D,", "letter"):
                self.wrong(place, " ".join(fields[:place] + [bad]))
            for letter in "DLX":
                self.same(read_event(" ".join(fields[:place] + [letter]))[place], letter)

    def test_missing_and_too_many(self):
        for text in GOOD:
            fields = text.split(" ")
            for place in range(1, len(fields)):
                self.wrong(place, " ".join(fields[:place]))
                self.wrong(place, " ".join(fields[:place]) + " ")
                self.wrong(place, " ".join(fields[:place]) + "  " + " ".join(fields[place:]))
            for more in ("", "0", "D", " ", text):
                self.wrong(len(fields), f"{text} {more}")
            self.wrong(0, " " + text)
            self.wrong(0, "\n" + text)
            self.wrong(0, text.replace(" ", "\n"))

    def test_words(self):
        for bad in ("", " ", "  ", "Lay", "LAY", "lays", "la", "undo", "cut", "tally", "nest", "0", "D", "number", "letter", "-1", "lay\n"):
            self.wrong(0, bad)
            self.wrong(0, f"{bad} 0 D")
        self.wrong(0, "x" * 4000)

    def test_refusals(self):
        for bad in (*wrong_events(), *ODD, "lay 0 D", list(EVENTS[0])):
            self.not_usable("event", event_line, bad)
        self.not_usable("event", event_line, event=None)
        for bad in (*NO_TEXTS, ("lay 0 D",), ["lay 0 D"], EVENTS[0]):
            self.not_usable("text", read_event, bad)
            self.not_usable("text", read_event, text=bad)


if __name__ == "__main__":
    unittest.main()
