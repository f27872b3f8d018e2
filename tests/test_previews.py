import unittest
from itertools import combinations

import reference
from samples import FOUR, GROWN, LEAF, MANY, ONES, THREE, TWO, StrictCase
from threadsround.previews import put_menu, smooth_menu
from threadsround.puttings import can_put
from threadsround.smoothings import smooth_word, smoothed


class PreviewsTest(StrictCase):
    def test_examples(self):
        self.same((smooth_menu(THREE), put_menu(THREE)), (((1, None), (None, 1)), (0, 3, 3, 0)))

    def test_smooth_menu(self):
        found = set()
        for pattern in [*MANY, *ONES[::5], *GROWN, TWO, FOUR, LEAF]:
            menu = smooth_menu(pattern)
            self.assertEqual([type(menu), len(menu)], [tuple, len(pattern) // 4])
            for crossing, pair in enumerate(menu):
                self.assertEqual([type(pair), len(pair)], [tuple, 2])
                for letter, cut in zip("DL", pair):
                    word = smooth_word(pattern, crossing, letter)
                    self.same(word, reference.smooth_word(pattern, crossing, letter))
                    wanted = reference.cut(smoothed(pattern, crossing, letter)) if word == "sound" else None
                    self.same(cut, wanted)
                    if cut is not None:
                        self.assertIn(reference.cut(pattern) - cut, (0, 2))
                        found.add(reference.cut(pattern) - cut)
        self.assertEqual(found, {0, 2})
        self.same(smooth_menu(pattern=TWO), ((None, None),))

    def test_put_menu(self):
        for pattern in [*MANY, *ONES, *GROWN]:
            faces = reference.faces(pattern)
            wanted = tuple(len(list(combinations(face, 2))) for face in faces)
            self.same(put_menu(pattern), wanted)
            for face, many in list(zip(faces, wanted))[:2]:
                self.assertEqual(len([1 for one in face for other in face if one < other and can_put(pattern, one, other)]), many)
        self.same(put_menu(pattern=LEAF), tuple(len(face) * (len(face) - 1) // 2 for face in reference.faces(LEAF)))


if __name__ == "__main__":
    unittest.main()
