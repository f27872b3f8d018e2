import unittest

from samples import FOUR, GREAT, LEAF, NO_INTEGERS, NO_TUPLES, ODD, THREE, TWO, StrictCase
from test_alikes import NO_PATTERNS
from test_smoothings import NO_LETTERS
from threadsround.alikes import least_writing
from threadsround.buildclasses import Building
from threadsround.errors import NotSmooth, NothingToUndo, NotUsable
from threadsround.nestings import nested
from threadsround.patternclasses import Pattern
from threadsround.petals import petal_on
from threadsround.puttings import put_in
from threadsround.smoothings import smoothed


class BuildingTest(StrictCase):
    def state(self, building):
        return repr((building.first_told, building.now_told, building.deeds, len(building)))

    def built(self):
        """A Building after deeds, one of each form, and the patterns come to."""
        first = put_in(TWO, 1, 3)
        second = petal_on(first, 0, 0)
        third = smoothed(second, 1, "D")
        fourth = nested(third, 2, THREE, 0)
        building = Building(TWO)
        self.same(building.put(1, 3), None)
        self.same(building.petal(0), None)
        self.same(building.smooth(1, "D"), None)
        self.same(building.nest_in(THREE, 0, 2), None)
        return building, (TWO, first, second, third, fourth)

    def test_deeds(self):
        building, patterns = self.built()
        self.same(building.first_told, TWO)
        self.same(building.now_told, patterns[4])
        self.same(building.deeds, (("put", 1, 3), ("petal", 0, 0), ("smooth", 1, "D"), ("nest", THREE, 0, 2)))
        self.same(len(building), 4)
        self.same(building.least(), least_writing(patterns[4]))
        self.same(building.petal(0, shift=0), None)
        self.same(building.deeds[4:], (("petal", 0, 0),))
        for name in ("first_told", "now_told", "deeds"):
            self.assertRaises(AttributeError, setattr, building, name, ())

    def test_a_new_one(self):
        building = Building(pattern=FOUR)
        self.same((building.first_told, building.now_told, building.deeds, len(building)), (FOUR, FOUR, (), 0))
        self.same(building.least(), least_writing(FOUR))
        self.raises(NothingToUndo, {"steps": 0}, building.back)

    def test_by_name(self):
        building = Building(TWO)
        building.put(other=3, corner=1)
        building.petal(shift=1, end=0)
        building.nest_in(corner=2, other=LEAF, place=0)
        building.smooth(letter="D", crossing=1)
        self.same(building.deeds, (("put", 1, 3), ("petal", 0, 1), ("nest", LEAF, 0, 2), ("smooth", 1, "D")))
        self.assertRaises(TypeError, lambda: building.petal(0, 0))
        self.assertRaises(TypeError, lambda: building.back(1))

    def test_back(self):
        building, patterns = self.built()
        self.same(building.back(), None)
        self.same((building.now_told, len(building)), (patterns[3], 3))
        self.same(building.back(many=2), None)
        self.same((building.now_told, building.deeds), (patterns[1], (("put", 1, 3),)))
        before = self.state(building)
        self.raises(NothingToUndo, {"steps": 1}, building.back, many=2)
        self.raises(NothingToUndo, {"steps": 1}, building.back, many=GREAT)
        for bad in (*NO_INTEGERS, 0, -1):
            self.not_usable("many", building.back, many=bad)
        self.assertEqual(self.state(building), before)
        building.petal(1)
        self.same((building.now_told, len(building)), (petal_on(patterns[1], 1, 0), 2))
        building.petal(2)
        building.back()
        self.same((building.now_told, len(building)), (petal_on(patterns[1], 1, 0), 2))
        building.back(many=2)
        self.same((building.now_told, building.first_told, building.deeds), (TWO, TWO, ()))
        other, patterns = self.built()
        other.back(many=4)
        self.same(other == building, True)

    def test_refused_deeds_change_nothing(self):
        building = Building(THREE)
        building.petal(0)
        before = self.state(building)
        ends = (*NO_INTEGERS, -1, 12, GREAT)
        for bad in (*NO_INTEGERS, -1, 3, GREAT):
            self.not_usable("crossing", building.smooth, bad, None)
        for bad in NO_LETTERS:
            self.not_usable("letter", building.smooth, 0, bad)
        self.raises(NotSmooth, {"word": "apart"}, building.smooth, 2, "D")
        for bad in ends:
            self.not_usable("corner", building.put, bad, None)
            self.not_usable("other", building.put, 4, bad)
            self.not_usable("end", building.petal, bad, shift=None)
        self.not_usable("other", building.put, 4, 4)
        for bad in (*NO_INTEGERS, -1, 2):
            self.not_usable("shift", building.petal, 0, shift=bad)
        for bad in NO_PATTERNS:
            self.not_usable("other", building.nest_in, bad, None, None)
        for bad in (*NO_INTEGERS, 1, 4, -1):
            self.not_usable("place", building.nest_in, TWO, bad, None)
        for bad in (*NO_INTEGERS, 0, 12, -1):
            self.not_usable("corner", building.nest_in, TWO, 0, bad)
        self.assertEqual(self.state(building), before)
        self.raises(NotSmooth, {"word": "alone"}, Building(TWO).smooth, 0, "D")

    def test_by_deeds(self):
        building, patterns = self.built()
        other = Building.by_deeds(TWO, building.deeds)
        self.assertIs(type(other), Building)
        self.assertEqual(self.state(other), self.state(building))
        other.back(many=3)
        self.same((other.now_told, len(building)), (patterns[1], 4))
        self.same(Building.by_deeds(pattern=LEAF, deeds=()).now_told, LEAF)

    def test_by_deeds_refused(self):
        for bad in NO_PATTERNS:
            self.not_usable("pattern", Building.by_deeds, bad, None)
        for bad in NO_TUPLES:
            self.not_usable("deeds", Building.by_deeds, TWO, bad)
        good = ("petal", 0, 0)
        for bad in (*NO_INTEGERS, 7, "put", ("put",), ("put", 1), ("put", 1, 3, 3), ["put", 1, 3], ("put", 1, 1),
                    ("put", True, 3), ("petal", 0), ("petal", 0, True), ("petal", 0, 0, 0), ("petal", 99, 0),
                    ("smooth", 0), ("smooth", 0, "X"), ("smooth", 99, "D"), ("smooth", True, "D"), ("smooth", 0, "D", 0),
                    ("nest", TWO, 0), ("nest", TWO, 0, 0), ("nest", None, 0, 2), ("nest", TWO, 1, 2), ("nest", TWO, 0, 2, 0),
                    ("back", 1), ("Smooth", 0, "D"), (0, 1, 3), (None, 0, 0), (("put",), 1, 3)):
            self.raises(NotUsable, {"word": "deeds", "at": 0}, Building.by_deeds, TWO, (bad, None))
            self.raises(NotUsable, {"word": "deeds", "at": 1}, Building.by_deeds, LEAF, (good, bad))
        self.raises(NotUsable, {"word": "deeds", "at": 0}, Building.by_deeds, TWO, (("smooth", 0, "D"),))
        self.raises(NotUsable, {"word": "deeds", "at": 2}, Building.by_deeds, TWO, (good, good, ("put", 0, 1)))

    def test_constructor_refused(self):
        for bad in (*NO_PATTERNS, Pattern(TWO), Building(TWO)):
            self.not_usable("pattern", Building, bad)
            self.not_usable("pattern", Building, pattern=bad)

    def test_equality(self):
        one, _ = self.built()
        other, _ = self.built()
        self.same((one == other, one != other), (True, False))
        other.petal(0)
        self.same((one == other, one != other), (False, True))
        other.back()
        self.same(one == other, True)
        self.same(Building(TWO) == Building(LEAF), False)
        # The same pattern now, by other deeds.
        there = Building(TWO)
        there.put(1, 3)
        there.smooth(1, "D")
        self.same((there.now_told == TWO, there == Building(TWO)), (True, False))
        for thing in (*ODD, TWO, (), Pattern(TWO)):
            self.same(Building(TWO) == thing, False)

    def test_two_objects_by_turns(self):
        one, other = Building(TWO), Building(LEAF)
        one.petal(0)
        other.petal(1, shift=0)
        one.put(1, 3)
        kept = one.deeds
        other.back()
        one.petal(2, shift=0)
        self.same((len(one), len(other), len(kept)), (3, 0, 2))
        self.same((other.now_told, other.deeds), (LEAF, ()))
        self.same(one.now_told, petal_on(put_in(petal_on(TWO, 0, 0), 1, 3), 2, 0))
        other.petal(0, shift=1)
        self.same((len(one), len(other)), (3, 1))


if __name__ == "__main__":
    unittest.main()
