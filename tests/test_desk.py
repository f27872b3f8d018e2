import random
import unittest

import reference_bench
from samples import FOUR, GREAT, LEAF, THREE, TWO, StrictCase
from test_alikes import NO_PATTERNS
from test_eventtexts import GOOD, NO_TEXTS
from threadsround.bench import Bench
from threadsround.desk import Desk
from threadsround.errors import InvalidEvent, InvalidText, NothingToUndo, NotUsable
from threadsround.eventtexts import event_line, read_event
from threadsround.patternclasses import Pattern
from threadsround.states import start_state

WORDS = ("cut", "windings", "threads", "row", "cost", "tally")


def answer_of(bench, text):
    """What a desk must answer, by its words, the bench being of its state."""
    if text in WORDS:
        told = {"cut": lambda: (bench.cut_now(),), "windings": bench.windings_now, "threads": bench.threads_now,
                "row": bench.row_now, "cost": lambda: None if bench.price_now() is None else (bench.price_now(),),
                "tally": lambda: bench.tally}[text]()
        if told is None:
            return "none"
        return " ".join(f"{part[0]}x{part[1]}" if type(part) is tuple else str(part) for part in told)
    if text.startswith("undo "):
        try:
            bench.undo(int(text[5:]))
        except NothingToUndo as refusal:
            return f"refused {refusal.steps}"
        return "undone"
    try:
        bench.go(read_event(text))
    except InvalidEvent as refusal:
        return f"refused {refusal.reason}"
    return "done"


class DeskTest(StrictCase):
    def wrong(self, field, desk, text):
        before = (desk.now, desk.log)
        self.raises(InvalidText, {"line": 0, "field": field}, desk.hear, text)
        self.same((desk.now, desk.log), before)

    def test_examples(self):
        self.same(list(Desk(TWO).hear_all("lay 0 D", "sectors 6", "threads", "smooth 0", "undo 3")),
                  ["done", "done", "1x2", "refused alone", "refused 2"])

    def test_a_new_one(self):
        for pattern in (TWO, THREE, FOUR, LEAF):
            desk = Desk(pattern=pattern)
            self.same((desk.now, desk.log), (start_state(pattern), ()))

    def test_each_text(self):
        desk = Desk(THREE)
        said = (("cut", "3"), ("windings", "1 0"), ("threads", "0x1 1x1"), ("row", "1 1"), ("cost", "0"), ("tally", "0 0 0"),
                ("lay 0 D", "done"), ("price 0 7 1", "done"), ("price 1 0 20", "done"), ("cost", "27"), ("lay 1 X", "done"),
                ("cost", "none"), ("windings", "1"), ("sectors 4", "done"), ("threads", "1x1"), ("sectors 0", "done"), ("threads", "none"),
                ("undo 1", "undone"), ("undo 2", "undone"), ("tally", "3 0 3"), ("smooth 0", "done"), ("cut", "1"), ("row", "1"),
                ("undo 5", "refused 4"), ("lay 1 D", "refused crossing"), ("draw 2", "refused sectors"), ("petal 0 0 X", "done"),
                ("put 0 0 D", "refused face"), ("petal 0 7 D", "refused shift"), ("smooth 1", "refused across"), ("tally", "5 5 3"))
        for text, _ in said:
            before = desk.now
            answer = desk.hear(text)
            self.assertIs(type(answer), str)
            if text.split(" ")[0] in WORDS:
                self.same(desk.now, before)
        self.same(desk.log, said)

    def test_said_by_hand(self):
        desk = Desk(THREE)
        self.same([desk.hear(text) for text in ("lay 0 D", "windings", "threads", "cost", "tally", "undo 1", "tally", "undo 1", "tally")],
                  ["done", "1", "1x1", "0", "1 0 0", "undone", "0 0 1", "refused 0", "0 0 1"])
        self.same([desk.hear(text=text) for text in ("lay 1 D", "sectors 6", "threads", "sectors 0", "threads", "lay 1 X", "cost")],
                  ["done", "done", "1x3", "done", "none", "done", "none"])
        self.same(desk.hear("price 0 999999 1"), "done")
        self.same((desk.log[-1], desk.now), (("price 0 999999 1", "done"), (THREE, "LX", ((999999, 1), (0, 0)), 0)))

    def test_long_talks(self):
        dice = random.Random(92)
        for pattern in (TWO, THREE, FOUR, LEAF):
            desk, bench, said = Desk(pattern), Bench(start_state(pattern)), []
            for _ in range(80):
                event = reference_bench.some_event(dice, desk.now)
                text = dice.choice((*WORDS, "undo 1", "undo 3", "undo 99"))
                if reference_bench.is_event(event) and dice.random() < 0.7:
                    text = event_line(event)
                wanted = answer_of(bench, text)
                self.same(desk.hear(text), wanted)
                said.append((text, wanted))
                self.same((desk.now, desk.log), (bench.now, tuple(said)))

    def test_wrong_texts(self):
        desk = Desk(FOUR)
        desk.hear("lay 0 D")
        for text, field in (("", 0), (" ", 0), ("Cut", 0), ("cut ", 1), ("cut 1", 1), (" cut", 0), ("tally\n", 0), ("undo", 1), ("undo ", 1),
                            ("undo 0", 1), ("undo -1", 1), ("undo 01", 1), ("undo +1", 1), ("undo one", 1), ("undo 1 ", 2), ("undo 1 1", 2),
                            ("undo  1", 1), ("price", 1), ("row row", 1), ("cost 0", 1), ("lay 0", 2), ("lay 0 D D", 3), ("threads none", 1),
                            ("done", 0), ("refused", 0), ("windings,", 0), ("draw 0", 1), ("price 0 05", 2)):
            self.wrong(field, desk, text)
        for bad in (*NO_TEXTS, ("cut",), ["cut"], ("lay", 0, "D")):
            before = (desk.now, desk.log)
            self.not_usable("text", desk.hear, bad)
            self.not_usable("text", desk.hear, text=bad)
            self.same((desk.now, desk.log), before)
        self.same(desk.hear("tally"), "1 0 0")

    def test_hear_all_each_when_its_answer_is_asked_for(self):
        desk = Desk(THREE)
        answers = desk.hear_all("lay 0 D", "tally", "smooth 9", "undo 4", "undo 1")
        self.same((desk.log, desk.now), ((), start_state(THREE)))
        self.same((next(answers), desk.now[1], len(desk.log)), ("done", "DL", 1))
        # Other texts may be heard in between.
        self.same(desk.hear("lay 1 X"), "done")
        self.same((next(answers), desk.log[-1]), ("2 0 0", ("tally", "2 0 0")))
        self.same(list(answers), ["refused crossing", "refused 2", "undone"])
        self.same((desk.now[1], len(desk.log)), ("DL", 6))
        self.same(list(desk.hear_all()), [])
        one, other = desk.hear_all("tally", "lay 0 L"), desk.hear_all("lay 0 X", "tally")
        self.same([next(other), next(one), next(one), next(other)], ["done", "2 1 1", "done", "3 1 1"])

    def test_hear_all_judges_before_it_hears(self):
        desk = Desk(THREE)
        for bad in NO_TEXTS:
            for texts, k in (((bad,), 0), (("cut", bad, bad), 1), (("cut", "lay 0 D", "row", bad, "?"), 3)):
                answers = desk.hear_all(*texts)
                self.raises(NotUsable, {"word": "texts", "at": k}, lambda generator: next(generator), answers)
        for texts, k, field in ((("?",), 0, 0), (("cut", "lay 0", None), 1, 2), (("lay 0 D", "cut", "undo 0", "?"), 2, 1), (("cut", ""), 1, 0),
                                (("tally", "cut", "price 0 1 -1"), 2, 3), (("lay 0 D", "lay 0 D D"), 1, 3)):
            answers = desk.hear_all(*texts)
            self.raises(InvalidText, {"line": k, "field": field}, lambda generator: next(generator), answers)
            self.same(list(answers), [])
        self.same((desk.log, desk.now), ((), start_state(THREE)))
        # A text that will be refused is well written.
        self.same(list(desk.hear_all("smooth 9", "undo 1")), ["refused crossing", "refused 0"])

    def test_all_good_events(self):
        desk = Desk(FOUR)
        for text in GOOD:
            self.assertIn(desk.hear(text).split(" ")[0], ("done", "refused"))
        self.same(desk.hear(f"sectors {GREAT}"), "done")
        self.same(desk.now[3], GREAT)

    def test_refusals(self):
        for bad in (*NO_PATTERNS, Pattern(TWO), Desk(TWO), start_state(TWO)):
            self.not_usable("pattern", Desk, bad)
            self.not_usable("pattern", Desk, pattern=bad)
        for name in ("now", "log"):
            self.assertRaises(AttributeError, setattr, Desk(TWO), name, ())

    def test_two_desks_by_turns(self):
        one, other = Desk(TWO), Desk(TWO)
        one.hear("lay 0 X")
        other.hear("tally")
        kept = one.log
        one.hear("cut")
        self.same((one.now[1], other.now[1], kept, other.log), ("X", "L", (("lay 0 X", "done"),), (("tally", "0 0 0"),)))


if __name__ == "__main__":
    unittest.main()
