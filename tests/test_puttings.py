import unittest

import reference
from samples import FEW, GREAT, NO_INTEGERS, SOME, THREE, TWO, StrictCase
from threadsround.patternchecker import is_pattern
from threadsround.puttings import can_put, put_in
from threadsround.smoothings import smooth_word, smoothed


def each_two_corners(patterns):
    for pattern in patterns:
        for corner in range(len(pattern)):
            for other in range(len(pattern)):
                yield pattern, corner, other


class PuttingsTest(StrictCase):
    def test_examples(self):
        self.same(put_in(TWO, 1, 3), ((5, 1), (4, 0), (7, 0), (6, 1), (1, 0), (0, -1), (3, -1), (2, 0)))

    def test_can_put(self):
        for pattern, corner, other in each_two_corners(SOME[::2]):
            wanted = corner != other and any(corner in face and other in face for face in reference.faces(pattern))
            self.same(can_put(pattern, corner, other), wanted)
            if not wanted:
                self.not_usable("other", put_in, pattern, corner, other)

    def test_put_in(self):
        neighbours = others = 0
        for pattern, corner, other in each_two_corners(SOME):
            if not can_put(pattern, corner, other):
                continue
            result = put_in(pattern, corner, other)
            self.same(result, reference.put_in(pattern, corner, other))
            self.same(is_pattern(result), True)
            near = reference.corner_walk(pattern, corner) == other
            neighbours, others = neighbours + near, others + (not near)
        self.assertGreater(min(neighbours, others), 100)

    def test_shifts_of_the_walk_between_are_added(self):
        far = reference.moved_crossings(THREE, [1000, 7])
        self.same(put_in(far, 1, 3), reference.put_in(far, 1, 3))
        self.same(put_in(far, 3, 1), reference.put_in(far, 3, 1))
        self.same(put_in(far, 1, 4)[8:], reference.put_in(far, 1, 4)[8:])

    def test_windings_stay_with_the_letter_of_the_face(self):
        for pattern, corner, other in each_two_corners(FEW):
            if not can_put(pattern, corner, other):
                continue
            result = put_in(pattern, corner, other)
            letter = reference.face_letter(pattern, corner)
            new = len(pattern) // 4
            if new <= 2:
                for laying in reference.layings(pattern):
                    self.same(reference.windings(result, laying + letter), reference.windings(pattern, laying))
            self.same(smooth_word(result, new, letter), "sound")
            self.same(smoothed(result, new, letter), pattern)

    def test_refusals(self):
        bad = (*NO_INTEGERS, -1, 8, GREAT)
        self.refuses_in_order(can_put, ("pattern", "corner", "other"), (THREE, 1, 4), ((), bad, bad))
        self.refuses_in_order(put_in, ("pattern", "corner", "other"), (THREE, 1, 4), ((), bad, (*bad, 0, 1, 2, 6)))
        self.same(can_put(THREE, 1, 1), False)


if __name__ == "__main__":
    unittest.main()
