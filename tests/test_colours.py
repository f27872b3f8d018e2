import unittest

import reference
from samples import GREAT, LEAF, NO_INTEGERS, ONES, SOME, THREE, TWO, TWOS, StrictCase
from threadsround.colours import colours_of, dark_corners, light_corners


class ColoursTest(StrictCase):
    def test_examples(self):
        got = (colours_of(LEAF), dark_corners(THREE, 1), light_corners(THREE, 1))
        self.same(got, (("dark", "light", "dark"), (5, 7), (4, 6)))

    def test_one_crossing(self):
        self.same(colours_of(TWO), ("light", "dark", "light"))
        self.same((dark_corners(TWO, 0), light_corners(TWO, 0)), ((1, 3), (0, 2)))
        self.same((dark_corners(LEAF, 0), light_corners(LEAF, 0)), ((0, 2), (1, 3)))
        for pattern in ONES:
            self.same(colours_of(pattern), tuple(reference.colours(pattern)))

    def test_against_the_reference(self):
        for pattern in [*SOME, *TWOS[::5]]:
            colours = colours_of(pattern)
            self.same(colours, tuple(reference.colours(pattern)))
            number = {corner: k for k, face in enumerate(reference.faces(pattern)) for corner in face}
            for end in range(len(pattern)):
                self.assertNotEqual(colours[number[end]], colours[number[reference.before(end)]])
            for crossing in range(len(pattern) // 4):
                corners = range(4 * crossing, 4 * crossing + 4)
                dark = tuple(corner for corner in corners if colours[number[corner]] == "dark")
                light = tuple(corner for corner in corners if colours[number[corner]] == "light")
                self.same((dark_corners(pattern, crossing), light_corners(pattern, crossing)), (dark, light))
                self.assertEqual([dark[1] - dark[0], light[1] - light[0]], [2, 2])

    def test_the_middle_is_dark_exactly_if_the_cut_is_odd(self):
        seen = set()
        for pattern in SOME:
            middle = reference.totals(pattern).index(1)
            outside = reference.totals(pattern).index(-1)
            colours = colours_of(pattern)
            self.assertEqual(colours[middle] == "dark", reference.cut(pattern) % 2 == 1)
            self.assertEqual(colours[outside], "light")
            seen.add(colours[middle])
        self.assertEqual(seen, {"dark", "light"})

    def test_refusals(self):
        for function in (dark_corners, light_corners):
            self.refuses_in_order(function, ("pattern", "crossing"), (THREE, 1), ((), (*NO_INTEGERS, -1, 2, 4, GREAT)))
            self.not_usable("crossing", function, TWO, 1)
            self.same(len(function(TWO, 0)), 2)
        self.same(colours_of(pattern=TWO), colours_of(TWO))


if __name__ == "__main__":
    unittest.main()
