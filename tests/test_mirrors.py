import unittest

import reference
from samples import SOME, THREE, TWO, TWOS, StrictCase
from threadsround.mirrors import inside_out, mirrored
from threadsround.patternchecker import is_pattern


class MirrorsTest(StrictCase):
    def test_examples(self):
        self.same(mirrored(THREE), ((3, -1), (7, 0), (4, 1), (0, 1), (2, -1), (6, -1), (5, 1), (1, 0)))
        self.same(inside_out(THREE), ((1, -1), (0, 1), (4, 1), (5, 0), (2, -1), (3, 0), (7, 1), (6, -1)))

    def test_mirrored(self):
        for pattern in [*SOME, *TWOS[::3]]:
            other = mirrored(pattern)
            names = [end - end % 4 + {0: 0, 1: 3, 2: 2, 3: 1}[end % 4] for end in range(len(pattern))]
            for end, (to, shift) in enumerate(pattern):
                self.same(other[names[end]], (names[to], -shift))
            self.same(is_pattern(other), True)
            self.same(mirrored(other), pattern)

    def test_mirrored_faces(self):
        for pattern in SOME:
            other = mirrored(pattern)
            self.assertEqual(reference.cut(other), reference.cut(pattern))
            its = {frozenset(face): k for k, face in enumerate(reference.faces(other))}
            for k, face in enumerate(reference.faces(pattern)):
                image = [corner - corner % 4 + 3 - corner % 4 for corner in face]
                j = its[frozenset(image)]
                self.assertEqual(reference.totals(other)[j], reference.totals(pattern)[k])
                self.assertEqual(reference.colours(other)[j], reference.colours(pattern)[k])
                # Walked back: behind each image comes that of the corner ahead.
                for corner, following in zip(image, image[1:] + image[:1]):
                    self.assertEqual(reference.corner_walk(other, following), corner)

    def test_inside_out(self):
        for pattern in SOME:
            other = inside_out(pattern)
            self.same(other, tuple((to, -shift) for to, shift in pattern))
            self.same(is_pattern(other), True)
            self.same(inside_out(other), pattern)
            self.same(reference.faces(other), reference.faces(pattern))
            self.assertEqual(reference.cut(other), reference.cut(pattern))
            self.same(reference.totals(other), [-total for total in reference.totals(pattern)])
            changes = [one != two for one, two in zip(reference.colours(other), reference.colours(pattern))]
            self.assertEqual(changes, [reference.cut(pattern) % 2 == 1] * len(changes))

    def test_arguments_stay(self):
        for pattern in (TWO, THREE):
            kept = repr(pattern)
            self.same(mirrored(pattern=pattern), mirrored(pattern))
            self.same(inside_out(pattern=pattern), inside_out(pattern))
            self.assertEqual(repr(pattern), kept)


if __name__ == "__main__":
    unittest.main()
