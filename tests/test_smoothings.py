import unittest

import reference
from samples import GREAT, NO_INTEGERS, ONES, SOME, THREE, TWO, TWOS, StrictCase
from threadsround.errors import NotSmooth
from threadsround.namings import moved_on
from threadsround.patternchecker import is_pattern
from threadsround.smoothings import smooth_word, smoothed

NO_LETTERS = (True, None, 0, "", "X", "d", "l", "DL", "DD", "L ", ("D",), ["L"], ())


def each_smoothing(patterns):
    for pattern in patterns:
        for crossing in range(len(pattern) // 4):
            for letter in "DL":
                yield pattern, crossing, letter


class SmoothingsTest(StrictCase):
    def test_examples(self):
        self.same(smoothed(THREE, 0, "D"), ((1, 0), (0, 0), (3, -1), (2, 1)))
        words = [smooth_word(THREE, c, letter) for c in (0, 1) for letter in "DL"]
        self.same(words, ["sound", "apart", "apart", "sound"])

    def test_words(self):
        seen = {}
        for pattern, crossing, letter in each_smoothing([*SOME, *TWOS[::3]]):
            word = smooth_word(pattern, crossing, letter)
            self.same(word, reference.smooth_word(pattern, crossing, letter))
            seen[word] = seen.get(word, 0) + 1
            if word != "sound":
                self.raises(NotSmooth, {"word": word}, smoothed, pattern, crossing, letter)
        self.assertEqual(sorted(seen), ["alone", "apart", "joined", "sound"])
        self.assertGreater(min(seen.values()), 20)
        for pattern in ONES:
            self.same([smooth_word(pattern, 0, letter) for letter in "DL"], ["alone", "alone"])

    def test_smoothed(self):
        led_twice = 0
        for pattern, crossing, letter in each_smoothing([*SOME, *TWOS]):
            if smooth_word(pattern, crossing, letter) != "sound":
                continue
            lines, rings = reference.contracted(pattern, crossing, letter)
            others = [c for c in range(len(pattern) // 4) if c != crossing]
            result = smoothed(pattern, crossing, letter)
            self.same(result, reference.numbered(lines, others))
            self.same(is_pattern(result), True)
            self.assertEqual(rings, [])
            led_twice += any(to // 4 == e // 4 == crossing for e, (to, _) in enumerate(pattern))
        self.assertGreater(led_twice, 50)

    def test_shifts_are_added(self):
        far = moved_on(THREE, 0, 1000)
        self.same(smoothed(far, 0, "D"), smoothed(THREE, 0, "D"))
        self.same(smoothed(moved_on(THREE, 1, -70), 1, "L"), smoothed(THREE, 1, "L"))

    def test_windings_and_cuts_stay(self):
        for pattern, crossing, letter in each_smoothing(SOME[::3]):
            if smooth_word(pattern, crossing, letter) != "sound":
                continue
            result = smoothed(pattern, crossing, letter)
            lost = reference.cut(pattern) - reference.cut(result)
            self.assertTrue(lost >= 0 and lost % 2 == 0)
            for laying in reference.layings(result):
                whole = laying[:crossing] + letter + laying[crossing:]
                self.same(reference.windings(result, laying), reference.windings(pattern, whole))

    def test_refusals(self):
        for function in (smooth_word, smoothed):
            self.refuses_in_order(function, ("pattern", "crossing", "letter"), (THREE, 0, "D"),
                                  ((), (*NO_INTEGERS, -1, 2, GREAT), NO_LETTERS))
        self.not_usable("crossing", smooth_word, TWO, 1, "X")
        self.raises(NotSmooth, {"word": "alone"}, smoothed, TWO, 0, "D")
        self.raises(NotSmooth, {"word": "apart"}, smoothed, THREE, 0, "L")


if __name__ == "__main__":
    unittest.main()
