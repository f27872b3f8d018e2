import unittest

import reference
from samples import FEW, GREAT, LEAF, NO_INTEGERS, ODD, THREE, TWO, StrictCase
from threadsround.drawings import drawn
from threadsround.errors import InvalidRow, InvalidText
from threadsround.mirrors import inside_out, mirrored
from threadsround.namings import moved_on, spun
from threadsround.patternclasses import Pattern
from threadsround.patterntexts import pattern_line


class PatternTest(StrictCase):
    def test_examples(self):
        thing = Pattern.of_strands(2, (1,)).spin(0)
        got = (thing.as_line, len(thing), list(thing), (0, 2) in thing)
        self.same(got, ("3+1 2+1 1-1 0-1", 1, [(0, 2), (1,), (3,)], True))

    def test_properties(self):
        for pattern in FEW:
            thing = Pattern(pattern)
            self.same(thing.told, pattern)
            self.same(thing.faces_told, reference.faces(pattern))
            self.same(thing.as_line, pattern_line(pattern))
            self.same(len(thing), len(pattern) // 4)
            self.same(list(thing), list(reference.faces(pattern)))
            self.same([face for face in thing], list(thing))
        self.same([len(Pattern(drawn(TWO, many))) for many in range(1, 37)], list(range(1, 37)))
        for name in ("told", "faces_told", "as_line"):
            self.assertRaises(AttributeError, setattr, Pattern(TWO), name, 1)

    def test_contains_any_value(self):
        thing = Pattern(THREE)
        for face in thing.faces_told:
            self.same(face in thing, True)
        for x in [*ODD, True, False, 0, 1, (1,), (0, 0), [0], (1, 3), (3, 4, 1), (True, 3, 4), (1, 3, 4.5), (False,),
                  (6, 6), ((0,),), thing, Pattern(TWO), THREE]:
            self.same(x in thing, repr(x) in ("(0,)", "(6,)"))
        self.same((True, 3) in Pattern(TWO), False)
        self.same((1, 3) in Pattern(TWO), True)

    def test_equality(self):
        for pattern in FEW[:30]:
            for other in FEW[:30]:
                self.same(Pattern(pattern) == Pattern(other), pattern == other)
                self.same(Pattern(pattern) != Pattern(other), pattern != other)
        for x in [*ODD, TWO, THREE, list(THREE)]:
            self.same(Pattern(THREE) == x, False)
            self.same(x == Pattern(THREE), False)

    def test_new_patterns(self):
        for pattern in FEW:
            thing = Pattern(pattern)
            last = len(pattern) // 4 - 1
            self.same(thing.spin(last).told, spun(pattern, last, 1))
            self.same(thing.move(last).told, moved_on(pattern, last, 1))
            self.same(thing.spin(last, quarters=6).told, spun(pattern, last, 6))
            self.same(thing.move(last, by=-GREAT).told, moved_on(pattern, last, -GREAT))
            self.same(thing.spin(crossing=0, quarters=0).told, pattern)
            self.same(thing.move(crossing=0, by=0).told, pattern)
            self.same(thing.mirror().told, mirrored(pattern))
            self.same(thing.turn_in().told, inside_out(pattern))
            made = (thing.spin(0), thing.move(0), thing.mirror(), thing.turn_in())
            self.same([type(new) is Pattern for new in made], [True] * 4)
            self.same([new.faces_told == reference.faces(new.told) for new in made], [True] * 4)
            self.same(thing.told, pattern)
            self.same(list(thing), list(reference.faces(pattern)))
        self.assertIsNot(Pattern(LEAF).move(0), Pattern(LEAF))

    def test_class_methods(self):
        self.same(Pattern.of_strands(3, (1, 2)).told, THREE)
        self.same(Pattern.of_strands(width=3, word=(1, 2)).told, THREE)
        self.same(Pattern.read_line("1+1 0-1 3-1 2+1") == Pattern(TWO), True)
        self.same(Pattern.read_line(text=pattern_line(THREE)).told, THREE)
        self.assertIs(type(Pattern.read_line("1+1 0-1 3-1 2+1")), Pattern)

    def test_two_objects_by_turns(self):
        one, other = Pattern(TWO), Pattern(THREE)
        first, second = iter(one), iter(other)
        self.same([next(first), next(second), next(first), next(second)], [(0,), (0,), (1, 3), (1, 3, 4)])
        moved, spun_one = one.move(0), other.spin(1)
        self.same((one.told, other.told), (TWO, THREE))
        self.same((moved == one, spun_one == other), (True, False))
        self.same(list(one), [(0,), (1, 3), (2,)])

    def test_refusals(self):
        for bad in [*ODD, list(TWO), TWO[:3], ((1, 1), (0, 1), (3, -1), (2, 1)), Pattern(TWO)]:
            self.not_usable("pattern", Pattern, bad)
            self.not_usable("pattern", Pattern, pattern=bad)
        thing = Pattern(THREE)
        for bad in (*NO_INTEGERS, -1, 2, GREAT):
            self.not_usable("crossing", thing.spin, bad)
            self.not_usable("crossing", thing.spin, crossing=bad, quarters=None)
            self.not_usable("crossing", thing.move, bad)
            self.not_usable("crossing", thing.move, bad, by=None)
        for bad in NO_INTEGERS:
            self.not_usable("quarters", thing.spin, 0, quarters=bad)
            self.not_usable("by", thing.move, 0, by=bad)
        self.not_usable("quarters", thing.spin, 0, quarters=-1)
        self.not_usable("width", Pattern.of_strands, True, None)
        self.not_usable("word", Pattern.of_strands, 3, (1, 1))
        self.not_usable("text", Pattern.read_line, THREE)
        self.raises(InvalidText, {"line": 0, "field": 1}, Pattern.read_line, "1+1 x")
        self.raises(InvalidRow, {"row": "shape"}, Pattern.read_line, "1+1")
        self.same(thing.told, THREE)
        self.assertRaises(TypeError, lambda: thing.spin(0, 1))
        self.assertRaises(TypeError, lambda: thing.move(0, 1))


if __name__ == "__main__":
    unittest.main()
