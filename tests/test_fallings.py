import unittest

import reference
from samples import GREAT, NO_INTEGERS, OTHER_LETTER, SOME, THREE, TWO, TWOS, StrictCase
from test_smoothings import NO_LETTERS, each_smoothing
from threadsround.errors import NotSmooth
from threadsround.fallings import fallen, falls_round
from threadsround.patternchecker import is_pattern


def falls(pattern, crossing, letter):
    if reference.smooth_word(pattern, crossing, letter) != "apart":
        return False
    one, other = reference.letter_corners(pattern, crossing, letter)
    return 0 not in reference.walk_parts(pattern, one, other)


def crossings_of_piece(pattern, crossing, lines, total):
    """The crossings of the piece with the face of this total, none for a bare ring."""
    face = reference.faces(pattern)[reference.totals(pattern).index(total)]
    for corner in face:
        if corner // 4 != crossing:
            return reference.hanging(lines, corner // 4)
    return []


class FallingsTest(StrictCase):
    def test_examples(self):
        self.same(fallen(THREE, 0, "L"), (None, ((1, 1), (0, -1), (3, -1), (2, 1))))
        self.same(fallen(THREE, 1, "D"), (((1, 1), (0, -1), (3, -1), (2, 1)), None))

    def test_falls_round(self):
        answers = []
        for pattern, crossing, letter in each_smoothing([*SOME, *TWOS[::3]]):
            got = falls_round(pattern, crossing, letter)
            self.same(got, falls(pattern, crossing, letter))
            word = reference.smooth_word(pattern, crossing, letter)
            answers.append((word, got))
            if not got:
                self.raises(NotSmooth, {"word": word}, fallen, pattern, crossing, letter)
        self.assertEqual(sorted(set(answers)), [("alone", False), ("apart", False), ("apart", True), ("joined", False),
                                                ("sound", False)])

    def test_pieces(self):
        kinds = {}
        for pattern, crossing, letter in each_smoothing([*SOME, *TWOS[::3]]):
            if not falls(pattern, crossing, letter):
                continue
            lines, rings = reference.contracted(pattern, crossing, letter)
            result = fallen(pattern, crossing, letter)
            self.assertIs(type(result), tuple)
            for piece, total in zip(result, (1, -1)):
                crossings = crossings_of_piece(pattern, crossing, lines, total)
                self.same(piece, reference.numbered(lines, crossings) if crossings else None)
                self.same(piece is None or is_pattern(piece), True)
            self.assertEqual(rings, [1] * result.count(None))
            many = sum(len(piece) for piece in result if piece is not None)
            self.assertEqual(many + 4, len(pattern))
            kinds[tuple(piece is None for piece in result)] = True
        self.assertEqual(sorted(kinds), [(False, False), (False, True), (True, False)])

    def test_cuts_add_up_and_windings_are_those_of_both(self):
        for pattern, crossing, letter in each_smoothing(SOME[::2]):
            if not falls(pattern, crossing, letter):
                continue
            lines, _ = reference.contracted(pattern, crossing, letter)
            inner, outer = fallen(pattern, crossing, letter)
            cuts = [1 if piece is None else reference.cut(piece) for piece in (inner, outer)]
            self.assertEqual(sum(cuts), reference.cut(pattern))
            for laying in reference.layings(pattern):
                if laying[crossing] != letter:
                    continue
                windings = []
                for piece, total in ((inner, 1), (outer, -1)):
                    letters = [laying[c] for c in crossings_of_piece(pattern, crossing, lines, total)]
                    if letter == "D" and total == 1:
                        letters = [OTHER_LETTER[its] for its in letters]
                    windings += [1] if piece is None else reference.windings(piece, "".join(letters))
                self.assertEqual(sorted(windings), sorted(reference.windings(pattern, laying)))

    def test_refusals(self):
        self.refuses_in_order(falls_round, ("pattern", "crossing", "letter"), (THREE, 0, "D"),
                              ((), (*NO_INTEGERS, -1, 2, GREAT), NO_LETTERS))
        self.refuses_in_order(fallen, ("pattern", "crossing", "letter"), (THREE, 0, "L"),
                              ((), (*NO_INTEGERS, -1, 2, GREAT), NO_LETTERS))
        self.raises(NotSmooth, {"word": "alone"}, fallen, TWO, 0, "D")
        self.raises(NotSmooth, {"word": "sound"}, fallen, THREE, 0, "D")


if __name__ == "__main__":
    unittest.main()
