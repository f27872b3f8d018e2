import random
import unittest

import reference
import reference_bench
from samples import FOUR, GREAT, GROWN, LEAF, ODD, THREE, TWO, StrictCase
from test_benchevents import EVENTS, wrong_events
from threadsround.bench import Bench
from threadsround.effects import after_event, refusal_in
from threadsround.errors import InvalidEvent
from threadsround.states import is_state

STATE = (THREE, "DL", ((1, 2), (3, 4)), 6)
TWELVE = reference_bench.start(reference.drawing(FOUR, 4))
ELEVEN = reference_bench.start(reference.petal_on(reference.petal_on(reference.drawing(FOUR, 3), 0, 0), 5, 0))


class EffectsTest(StrictCase):
    def refused(self, reason, state, event):
        self.same(refusal_in(state, event), reason)
        self.raises(InvalidEvent, {"event": event, "reason": reason}, after_event, state, event)
        try:
            after_event(state=state, event=event)
        except InvalidEvent as refusal:
            self.assertIs(refusal.event, event)

    def test_examples(self):
        self.same(after_event(STATE, ("smooth", 1)), (((1, 1), (0, -1), (3, 0), (2, 0)), "D", ((1, 2),), 6))

    def test_beside_the_second_version(self):
        dice = random.Random(85)
        counts = {}
        for state in reference_bench.bench_states(dice, 40):
            for _ in range(12):
                event = reference_bench.some_event(dice, state)
                reason = reference_bench.refusal(state, event)
                key = (event[0] if event else None, reason)
                counts[key] = counts.get(key, 0) + 1
                if reason is not None:
                    self.refused(reason, state, event)
                else:
                    self.same(refusal_in(state, event), None)
                    after = after_event(state, event)
                    self.same(after, reference_bench.after(state, event))
                    self.assertTrue(is_state(after))
        for word in ("lay", "price", "sectors", "smooth", "put", "petal", "draw"):
            self.assertGreater(counts[word, None], 10)
        self.assertEqual({reason for _, reason in counts},
                         {None, "event", "crossing", "across", "alone", "joined", "apart", "face", "shift", "sectors", "great"})

    def test_any_value_as_the_event(self):
        for thing in (*ODD, (), [], STATE, "lay 0 D", Bench(STATE), *list(wrong_events())[::3]):
            self.refused("event", STATE, thing)

    def test_each_event_alone(self):
        self.same(after_event(STATE, ("lay", 0, "X")), (THREE, "XL", STATE[2], 6))
        self.same(after_event(STATE, ("lay", 1, "L")), STATE)
        self.same(after_event(STATE, ("price", 1, 0, 999999)), (THREE, "DL", ((1, 2), (0, 999999)), 6))
        self.same(after_event(STATE, ("sectors", 0)), (THREE, "DL", STATE[2], 0))
        self.same(after_event(STATE, ("sectors", GREAT)), (THREE, "DL", STATE[2], GREAT))
        self.same(after_event(STATE, ("draw", 3)), (reference.drawing(THREE, 3), "DLDLDL", STATE[2] * 3, 2))
        self.same(after_event(STATE, ("draw", 1)), STATE)
        self.same(after_event((*STATE[:3], 0), ("draw", 6)), (reference.drawing(THREE, 6), "DL" * 6, STATE[2] * 6, 0))
        self.same(after_event(STATE, ("put", 3, 1, "X")), (reference.put_in(THREE, 3, 1), "DLX", (*STATE[2], (0, 0)), 6))
        self.same(after_event(STATE, ("petal", 6, -1, "D")), (reference.petal_on(THREE, 6, -1), "DLD", (*STATE[2], (0, 0)), 6))

    def test_reasons_in_their_sequence(self):
        for event in (("lay", 2, "D"), ("price", 2, 0, 0), ("smooth", 2), ("smooth", GREAT), ("put", 8, 0, "D"), ("put", 0, 8, "D"),
                      ("petal", 8, 0, "D"), ("petal", GREAT, 5, "L")):
            self.refused("crossing", STATE, event)
        self.refused("across", (THREE, "XL", STATE[2], 6), ("smooth", 0))
        self.refused("across", (TWO, "X", ((0, 0),), 6), ("smooth", 0))
        self.refused("alone", (TWO, "D", ((0, 0),), 6), ("smooth", 0))
        self.refused("apart", (THREE, "LL", STATE[2], 6), ("smooth", 0))
        for corner, other in ((0, 0), (0, 1), (1, 2), (6, 5)):
            self.refused("face", STATE, ("put", corner, other, "D"))
        for end, shift in ((0, -1), (0, 2), (6, 1), (1, 1), (1, -1), (3, GREAT)):
            self.refused("shift", STATE, ("petal", end, shift, "D"))
        for many in (4, 5, 7, 12, GREAT):
            self.refused("sectors", STATE, ("draw", many))
        self.refused("sectors", (THREE, "DL", STATE[2], 7), ("draw", 14))
        self.refused("great", (THREE, "DL", STATE[2], 7), ("draw", 7))
        self.refused("great", (THREE, "DL", STATE[2], 0), ("draw", 7))
        self.refused("great", (THREE, "DL", STATE[2], 0), ("draw", GREAT))

    def test_joined(self):
        # A lone strand that crosses itself: its two corners of one letter are middle and outside.
        for pattern in GROWN:
            for crossing in range(len(pattern) // 4):
                for letter in "DL":
                    if reference.smooth_word(pattern, crossing, letter) == "joined":
                        state = (*reference_bench.start(pattern)[:1], letter * (len(pattern) // 4), *reference_bench.start(pattern)[2:])
                        self.refused("joined", state, ("smooth", crossing))

    def test_twelve_crossings_and_one_more(self):
        self.assertEqual([len(TWELVE[1]), len(ELEVEN[1])], [12, 11])
        corners = next(face for face in reference.faces(TWELVE[0]) if len(face) > 1)[:2]
        self.refused("great", TWELVE, ("put", *corners, "D"))
        self.refused("great", TWELVE, ("petal", 0, 0, "D"))
        self.refused("great", (*TWELVE[:3], 2), ("draw", 2))
        # Ahead of it: corners of unlike faces, another shift, sectors that are not divided.
        self.refused("face", TWELVE, ("put", 0, 0, "D"))
        self.refused("shift", TWELVE, ("petal", 0, 5, "D"))
        self.refused("sectors", (*TWELVE[:3], 3), ("draw", 2))
        self.same(refusal_in(TWELVE, ("draw", 1)), None)
        corners = next(face for face in reference.faces(ELEVEN[0]) if len(face) > 1)[:2]
        for event in (("put", *corners, "D"), ("petal", 0, 0, "X")):
            after = after_event(ELEVEN, event)
            self.same(after, reference_bench.after(ELEVEN, event))
            self.assertEqual(len(after[1]), 12)
        six = (reference.drawing(FOUR, 2), "DLX" * 2, ((0, 0),) * 6, 4)
        self.same(len(after_event(six, ("draw", 2))[1]), 12)
        self.refused("great", six, ("draw", 4))

    def test_letters_stay_when_light_and_dark_change_places(self):
        after = after_event(STATE, ("petal", 6, -1, "L"))
        self.same((after[1], after[2][:2]), ("DLL", STATE[2]))
        self.assertEqual([reference.is_dark(THREE, 0), reference.is_dark(after[0], 0)], [True, False])

    def test_all_forms_have_an_effect_or_a_reason(self):
        for state in (STATE, (LEAF, "D", ((5, 6),), 0), TWELVE):
            for event in EVENTS:
                reason = reference_bench.refusal(state, event)
                self.same(refusal_in(event=event, state=state), reason)
                if reason is None:
                    self.same(after_event(state, event), reference_bench.after(state, event))


if __name__ == "__main__":
    unittest.main()
