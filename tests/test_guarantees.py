"""The guarantees (G1) to (G9), as far as they speak of what there is, on small patterns and their drawings."""

import unittest
from math import isqrt

import reference
import reference_loops
import reference_rows
from samples import FOUR, LEAF, MANY, NAMED, THREE, THREES, TWO, TWOS, StrictCase
from threadsround.keeps import is_kept
from threadsround.makings import can_have, least_x
from threadsround.menus import menu_of
from threadsround.ringrows import ring_row
from threadsround.roots import is_rising, roots_above
from threadsround.rowturning import row_turned
from threadsround.smoothings import smooth_word
from threadsround.trees import tree_count

SMALL = [*NAMED[:2], LEAF, *TWOS[::60], *THREES[::15]]


def drawings(most):
    """Small patterns, numbers of sectors and drawings of at most so many crossings."""
    for pattern in [*SMALL, FOUR]:
        for sectors in (1, 2, 3, 4):
            if sectors * len(pattern) <= 4 * most:
                yield pattern, sectors, reference.drawing(pattern, sectors)


class GuaranteesTest(StrictCase):
    def test_threads_in_drawings_alike_or_not(self):
        for pattern, _, whole in drawings(6):
            cut = reference.cut(pattern)
            fewest = {}
            for laying, windings in reference_loops.all_windings(whole):
                if 0 not in windings:
                    fewest[len(windings)] = min(laying.count("X"), fewest.get(len(windings), len(laying)))
            self.assertEqual(fewest, {many: (many - cut) % 2 for many in range(1, cut + 1)})
            # With one sector this is the menu itself.
            self.same(menu_of(whole, 1), tuple(sorted(fewest.items())))

    def test_sums_of_windings(self):
        for pattern in MANY[::2]:
            cut = reference.cut(pattern)
            for laying, windings in reference_loops.all_windings(pattern):
                total = sum(windings)
                self.assertTrue(total <= cut and (total - cut) % 2 == 0)
                round_ones = tuple(winding for winding in windings if winding)
                if round_ones:
                    self.same(can_have(pattern, round_ones), True)
                    self.assertGreaterEqual(laying.count("X"), least_x(round_ones))

    def test_plain_layings(self):
        for pattern in MANY:
            found = set()
            for _, windings in reference_loops.all_windings(pattern, "DL"):
                self.assertLessEqual(max(windings), 1)
                found.add((sum(windings), windings.count(0)))
            self.assertEqual(max(going_round for going_round, _ in found), reference.cut(pattern))
            for going_round, small in found:
                for fewer in range(0 if going_round else 1, small):
                    self.assertIn((going_round, fewer), found)

    def test_ring_rows(self):
        for pattern in MANY:
            row, cut = ring_row(pattern), reference.cut(pattern)
            degree = len(row) - 1
            self.assertEqual(cut, 2 * degree + (row[0] != 0))
            self.assertTrue(all(number > 0 for number in row[1 - cut % 2:]))
            self.same(is_rising(row), True)
            # All roots are real and at most 0: as many of them as the degree, by their sign alone.
            self.assertEqual([roots_above(row, (-10 ** 9, 1)), roots_above(row, (0, 1))], [degree, 0])

    def test_sound_smoothings(self):
        for pattern in MANY:
            if len(pattern) > 4:
                stuck = [c for c in range(len(pattern) // 4)
                         if "sound" not in (smooth_word(pattern, c, "D"), smooth_word(pattern, c, "L"))]
                self.assertLessEqual(len(stuck), 1)

    def test_rows_of_drawings_and_kept_layings(self):
        for pattern, sectors, whole in drawings(8):
            self.same(row_turned(ring_row(pattern), sectors), reference_rows.ring_numbers(whole))
            for order in [order for order in range(1, sectors + 1) if sectors % order == 0]:
                kept = reference_rows.ring_numbers(whole, lambda laying: is_kept(pattern, sectors, laying, order))
                self.same(kept, row_turned(ring_row(pattern), sectors // order))

    def test_trees_of_drawings(self):
        for pattern, sectors, whole in drawings(9):
            row, first, many = ring_row(pattern), tree_count(pattern), tree_count(whole)
            self.assertEqual(many, reference_rows.trees(whole))
            if reference.cut(pattern) % 2:
                self.assertEqual(many, row_turned(row, sectors)[0])
                factor = row[0] if sectors % 2 else row[0] * reference_rows.value_at(row, 4)
            else:
                less = row[1:]
                self.assertEqual(many * less[0], sectors * first * row_turned(less, sectors)[0])
                factor = sectors * first * (1 if sectors % 2 else reference_rows.value_at(less, 4))
                for laying, windings in reference_loops.all_windings(whole, "DL"):
                    if len(windings) == 1:
                        self.assertTrue(not any(is_kept(pattern, sectors, laying, order)
                                                for order in range(2, sectors + 1) if sectors % order == 0))
            square = reference_rows.Fraction(many) / factor
            self.assertEqual([isqrt(square.numerator) ** 2, isqrt(square.denominator) ** 2], [*square.as_integer_ratio()])

    def test_counts_of_trees_divide_each_other(self):
        for pattern in (TWO, THREE, FOUR, LEAF, *THREES[::9]):
            counts = {many: tree_count(reference.drawing(pattern, many)) for many in (1, 2, 3, 4, 6)}
            for a, b in ((1, 2), (1, 3), (2, 4), (2, 6), (3, 6), (1, 6)):
                self.assertEqual(counts[b] % counts[a], 0)
            part = reference_rows.Fraction(counts[4], counts[2])
            square = part.denominator == 1 and isqrt(part.numerator) ** 2 == part.numerator
            self.assertEqual(square, reference.cut(pattern) % 2 == 1)


if __name__ == "__main__":
    unittest.main()
