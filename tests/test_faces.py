import unittest

import reference
from samples import GREAT, LEAF, NO_INTEGERS, SOME, THREE, TWO, TWOS, StrictCase
from threadsround.faces import face_at, faces_of, faces_round, middle_of, outside_of, total_of


class FacesTest(StrictCase):
    def test_examples(self):
        got = (face_at(THREE, 5), total_of(THREE, 1), middle_of(THREE), outside_of(THREE), faces_round(THREE, 0))
        self.same(got, (2, 0, 0, 3, (0, 1, 2, 1)))
        self.same(faces_of(THREE), ((0,), (1, 3, 4), (2, 7, 5), (6,)))
        self.same([total_of(THREE, face) for face in range(4)], [1, 0, 0, -1])
        self.same(faces_of(LEAF), ((0,), (1, 3), (2,)))

    def test_against_the_reference(self):
        for pattern in [*SOME, *TWOS]:
            faces = faces_of(pattern)
            self.same(faces, reference.faces(pattern))
            self.assertEqual([face[0] for face in faces], sorted(min(face) for face in faces))
            totals = reference.totals(pattern)
            self.same([total_of(pattern, face) for face in range(len(faces))], totals)
            self.same((middle_of(pattern), outside_of(pattern)), (totals.index(1), totals.index(-1)))
            for corner in range(len(pattern)):
                self.assertIn(corner, faces[face_at(pattern, corner)])
            for crossing in range(len(pattern) // 4):
                numbers = [face_at(pattern, 4 * crossing + position) for position in range(4)]
                self.same(faces_round(pattern, crossing), tuple(numbers))

    def test_refusals(self):
        bad = (*NO_INTEGERS, -1, GREAT)
        self.refuses_in_order(face_at, ("pattern", "corner"), (THREE, 5), ((), (*bad, 8)))
        self.refuses_in_order(total_of, ("pattern", "face"), (THREE, 1), ((), (*bad, 4)))
        self.refuses_in_order(faces_round, ("pattern", "crossing"), (THREE, 1), ((), (*bad, 2)))
        self.not_usable("corner", face_at, TWO, 4)
        self.not_usable("face", total_of, TWO, 3)
        self.not_usable("crossing", faces_round, TWO, 1)
        self.same((face_at(TWO, 3), total_of(TWO, 2), faces_round(TWO, 0)), (1, -1, (0, 1, 2, 1)))

    def test_the_same_again(self):
        for pattern in SOME[:40]:
            kept = repr(pattern)
            self.same(faces_of(pattern), faces_of(pattern=pattern))
            self.assertEqual(repr(pattern), kept)


if __name__ == "__main__":
    unittest.main()
