import unittest

import reference
import reference_rows
from samples import FAR, FOUR, GREAT, LEAF, MANY, NO_INTEGERS, ODD, THREE, TWO, StrictCase
from test_alikes import NO_PATTERNS
from test_quotients import NO_QUOTIENTS
from test_ringrows import STRANDS
from threadsround.letterrows import letter_rows
from threadsround.means import mean_loops
from threadsround.menuclasses import Menu
from threadsround.patternclasses import Pattern
from threadsround.ringclasses import Rings
from threadsround.roots import is_rising, roots_above


class RingsTest(StrictCase):
    def test_examples(self):
        four = Rings(FOUR)
        self.same((four.told_row, four.cut_told, four.trees_told, len(four), list(four)), ((0, 2, 1), 4, 1, 3, [0, 2, 1]))
        self.same((four.share(2), four.share(1), four.between((-2, 1), (0, 1)), four.mean()), ((2, 3), (0, 1), 1, (8, 3)))
        self.same((four == Rings(THREE), Rings(TWO) == (0, 1), four.rises()), (False, False, True))

    def test_what_it_tells(self):
        for pattern in [*MANY[::2], *FAR, *STRANDS]:
            rings = Rings(pattern)
            row, cut = reference_rows.ring_numbers(pattern), reference.cut(pattern)
            self.same((rings.told_row, rings.cut_told, rings.trees_told), (row, cut, reference_rows.trees(pattern)))
            self.same((len(rings), list(rings), tuple(rings)), (len(row), list(row), row))
            self.same((rings.rises(), rings.mean()), (is_rising(row), mean_loops(pattern)))
            for crossing in range(len(pattern) // 4):
                self.same(rings.by_letters(crossing), letter_rows(pattern, crossing))
            for many in range(1, cut + 4):
                count = row[many // 2] if many <= cut and (cut - many) % 2 == 0 else 0
                self.same(rings.share(many), reference_rows.pair(reference_rows.Fraction(count, sum(row))))

    def test_between(self):
        for pattern in (TWO, THREE, FOUR, LEAF, *STRANDS):
            rings = Rings(pattern)
            values = [(k, bottom) for bottom in (1, 2) for k in range(-30, 5) if bottom == 1 or k % 2] + [(-GREAT, 1)]
            for low in values[::2]:
                for high in values[::3]:
                    wanted = roots_above(rings.told_row, low) - roots_above(rings.told_row, high)
                    if reference_rows.Fraction(*low) >= reference_rows.Fraction(*high):
                        wanted = 0
                    self.same(rings.between(low, high), wanted)
        four = Rings(FOUR)
        # The roots are -2 and 0: a root that is high counts, one that is low does not.
        for low, high, many in (((-3, 1), (-2, 1), 1), ((-2, 1), (-1, 1), 0), ((-3, 1), (0, 1), 2), ((0, 1), (5, 1), 0),
                                ((0, 1), (-3, 1), 0), ((0, 1), (0, 1), 0), ((-2, 1), (-2, 1), 0), ((-1, 2), (1, 2), 1)):
            self.same(four.between(low, high), many)
            self.same(four.between(high=high, low=low), many)

    def test_equality(self):
        self.same((Rings(THREE) == Rings(FAR[0]), Rings(THREE) != Rings(FAR[0])), (True, False))
        self.same((Rings(LEAF) == Rings(reference.drawing(LEAF, 3)), Rings(FOUR) == Rings(FAR[1])), (True, True))
        self.same((Rings(TWO) == Rings(LEAF), Rings(TWO) != Rings(LEAF)), (False, True))
        for thing in (*ODD, (0, 2, 1), [0, 2, 1], FOUR, Menu(FOUR, 1), Pattern(FOUR)):
            self.same((Rings(FOUR) == thing, thing == Rings(FOUR)), (False, False))

    def test_it_stays_as_it_was(self):
        rings = Rings(pattern=FOUR)
        before = repr((rings.told_row, rings.cut_told, rings.trees_told, list(rings)))
        rings.by_letters(crossing=1)
        rings.share(many=36)
        rings.between((-5, 1), (5, 1))
        for name in ("told_row", "cut_told", "trees_told"):
            self.assertRaises(AttributeError, setattr, rings, name, ())
        self.assertEqual(repr((rings.told_row, rings.cut_told, rings.trees_told, list(rings))), before)

    def test_refusals(self):
        for bad in (*NO_PATTERNS, Pattern(FOUR), Rings(FOUR)):
            self.not_usable("pattern", Rings, bad)
            self.not_usable("pattern", Rings, pattern=bad)
        rings = Rings(FOUR)
        for bad in (*NO_INTEGERS, -1, 3, GREAT):
            self.not_usable("crossing", rings.by_letters, bad)
            self.not_usable("crossing", rings.by_letters, crossing=bad)
        for bad in (*NO_INTEGERS, 0, -1, -GREAT):
            self.not_usable("many", rings.share, bad)
            self.not_usable("many", rings.share, many=bad)
        for bad in NO_QUOTIENTS:
            self.not_usable("low", rings.between, bad, None)
            self.not_usable("low", rings.between, high=(0, 1), low=bad)
            self.not_usable("high", rings.between, (5, 1), bad)
            self.not_usable("high", rings.between, high=bad, low=(-5, 1))


if __name__ == "__main__":
    unittest.main()
