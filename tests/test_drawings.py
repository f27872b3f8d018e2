import unittest

import reference
from samples import FEW, FOUR, GREAT, NO_INTEGERS, SOME, THREE, TWO, StrictCase
from threadsround.drawings import drawn, drawn_end, end_told
from threadsround.namings import moved_on
from threadsround.patternchecker import is_pattern


def told(pattern, sectors):
    """The drawing line by line, as [6] tells it."""
    crossings = len(pattern) // 4
    ends = {}
    for i in range(sectors):
        for end, (to, shift) in enumerate(pattern):
            mine = 4 * (i * crossings + end // 4) + end % 4
            j = (i + shift) % sectors
            ends[mine] = (4 * (j * crossings + to // 4) + to % 4, (i + shift - j) // sectors)
    return tuple(ends[e] for e in range(4 * crossings * sectors))


class DrawingsTest(StrictCase):
    def test_examples(self):
        self.same(drawn(TWO, 2), ((5, 0), (4, -1), (7, -1), (6, 0), (1, 1), (0, 0), (3, 0), (2, 1)))

    def test_drawn(self):
        for pattern in SOME:
            for sectors in (1, 2, 3, 5):
                self.same(drawn(pattern, sectors), told(pattern, sectors))
                self.same(is_pattern(drawn(pattern, sectors)), True)
            self.same(drawn(pattern, 1), pattern)
        for pattern, sectors in ((TWO, 36), (THREE, 18), (FOUR, 12), (moved_on(FOUR, 1, -987654), 7)):
            self.same(drawn(pattern=pattern, sectors=sectors), told(pattern, sectors))
            self.same(is_pattern(drawn(pattern, sectors)), True)

    def test_drawn_again(self):
        for pattern in FEW:
            for one in (1, 2, 3):
                for other in (1, 2, 4):
                    self.same(drawn(drawn(pattern, one), other), drawn(pattern, one * other))
            self.assertEqual(reference.cut(drawn(pattern, 3)), reference.cut(pattern))

    def test_ends(self):
        for pattern in FEW:
            for sectors in (1, 2, 3, 7):
                size = len(pattern)
                for sector in range(sectors):
                    for end in range(size):
                        place = drawn_end(pattern, sectors, sector, end)
                        self.same(place, sector * size + end)
                        self.same(end_told(pattern, sectors, place), (sector, end))
        self.same(drawn_end(TWO, 36, 35, 3), 143)
        self.same(end_told(TWO, 36, 143), (35, 3))

    def test_refusals(self):
        no_counts = (*NO_INTEGERS, 0, -1, -GREAT)
        self.refuses_in_order(drawn, ("pattern", "sectors"), (THREE, 2), ((), no_counts))
        bad = (*NO_INTEGERS, -1, GREAT)
        self.refuses_in_order(drawn_end, ("pattern", "sectors", "sector", "end"), (THREE, 3, 2, 7),
                              ((), no_counts, (*bad, 3), (*bad, 8)))
        self.refuses_in_order(end_told, ("pattern", "sectors", "end"), (THREE, 3, 23), ((), no_counts, (*bad, 24)))
        self.not_usable("sector", drawn_end, THREE, 1, 1, 0)


if __name__ == "__main__":
    unittest.main()
