import unittest

import reference
import reference_loops
from samples import FOUR, GREAT, LEAF, MANY, NO_INTEGERS, THREE, TWO, StrictCase
from threadsround.errors import NotLayable
from threadsround.menus import can_lay, fewest_x, lay_threads, menu_of

SECTORS = (0, 1, 2, 3, 4, 5, 6, 8, 9, 12, 15, 16, 35, 36)


def round_ones(windings, sectors):
    """How many threads go round, None if some are small."""
    if 0 in windings:
        return None
    return sum(reference_loops.threads(windings, sectors).values()) if sectors else sum(windings)


def all_menu(pattern, sectors):
    """many -> the fewest X, by all layings."""
    found = {}
    for laying, windings in reference_loops.all_windings(pattern):
        many = round_ones(windings, sectors)
        if many is not None:
            found[many] = min(laying.count("X"), found.get(many, len(laying)))
    return found


class MenusTest(StrictCase):
    def test_examples(self):
        self.same(menu_of(THREE, 3), ((1, 0), (2, 1), (3, 0)))
        self.same((menu_of(THREE, 0), lay_threads(TWO, 3, 1)), (((1, 0), (3, 0)), "X"))

    def test_beside_all_layings(self):
        for pattern in MANY:
            cut = reference.cut(pattern)
            for sectors in SECTORS[::2] if cut < 2 else SECTORS:
                menu = all_menu(pattern, sectors)
                self.same(menu_of(pattern, sectors), tuple(sorted(menu.items())))
                for many in range(1, cut + 3):
                    self.same(can_lay(pattern, sectors, many), many in menu)
                    if many in menu:
                        self.same(fewest_x(pattern, sectors, many), menu[many])
                        laying = lay_threads(pattern, sectors, many)
                        self.assertEqual((len(laying), laying.count("X")), (len(pattern) // 4, menu[many]))
                        self.assertEqual(round_ones(reference.windings(pattern, laying), sectors), many)
                        continue
                    word = "many" if many > cut else "unlike"
                    for function in (fewest_x, lay_threads):
                        self.raises(NotLayable, {"word": word, "at": many}, function, pattern, sectors, many)

    def test_threads_in_the_drawing(self):
        for pattern in (THREE, FOUR, LEAF):
            for sectors in (1, 2, 3, 5):
                whole = reference.drawing(pattern, sectors)
                for many, _ in menu_of(pattern, sectors):
                    loops = reference.windings(whole, lay_threads(pattern, sectors, many) * sectors)
                    self.assertEqual((len(loops), 0 in loops), (many, False))

    def test_great_numbers(self):
        great = reference_loops.strands(37, tuple(range(1, 37)))
        self.same(menu_of(great, 0), tuple((many, 0) for many in range(1, 38, 2)))
        self.same(menu_of(great, 35), tuple((many, (37 - many) % 2) for many in range(1, 38)))
        self.assertEqual(sum(reference.windings(great, lay_threads(great, 35, 36))), 37)
        self.same((can_lay(THREE, GREAT, 2), can_lay(THREE, 2 * GREAT, 2), can_lay(THREE, 3, GREAT)), (True, False, False))

    def test_refusals(self):
        no_numbers = (*NO_INTEGERS, -1, -GREAT)
        no_counts = (*no_numbers, 0)
        for function in (can_lay, fewest_x, lay_threads):
            self.refuses_in_order(function, ("pattern", "sectors", "many"), (THREE, 3, 2), ((), no_numbers, no_counts))
            self.refuses_in_order(function, ("pattern", "sectors", "many"), (THREE, 0, 1), ((), no_numbers, no_counts))
        self.refuses_in_order(menu_of, ("pattern", "sectors"), (THREE, 0), ((), no_numbers))
        self.raises(NotLayable, {"word": "many", "at": 4}, fewest_x, THREE, 2, 4)
        self.raises(NotLayable, {"word": "unlike", "at": 2}, lay_threads, THREE, 0, 2)


if __name__ == "__main__":
    unittest.main()
