import unittest

import reference
import reference_loops
from samples import FAR, FOUR, GREAT, LEAF, MANY, THREE, TWO, StrictCase
from threadsround.errors import NotLayable
from threadsround.makings import can_have, laying_with, least_x

NO_WINDINGS = (True, None, 0, 1, "", "1", (), [], [1], (True,), (1, True), (False,), (-1,), (1, -1), (1, 2), (2, 1, 2), (0, 1),
               (None,), ("1",), ((1,),), (1, (1,)), (1.0,), (1, 1, 2))


def descending(total, most):
    """All tuples of numbers of at least 1, each at most the one before it and at most most, with this sum."""
    if total == 0:
        yield ()
    for first in range(min(total, most), 0, -1):
        for more in descending(total - first, first):
            yield (first, *more)


def all_descending(most):
    return [windings for total in range(1, most + 1) for windings in descending(total, total)]


class MakingsTest(StrictCase):
    def test_examples(self):
        self.same((can_have(THREE, (2, 1)), can_have(THREE, (3, 0)), least_x((3, 2, 2))), (True, False, 4))
        self.same(laying_with(THREE, (3,)), "XX")

    def test_beside_all_layings(self):
        for pattern in MANY:
            fewest = {}
            with_small = {}
            for laying, windings in reference_loops.all_windings(pattern):
                mine = laying.count("X")
                round_ones = tuple(winding for winding in windings if winding)
                with_small[round_ones] = min(mine, with_small.get(round_ones, mine))
                if round_ones == windings:
                    fewest[windings] = min(mine, fewest.get(windings, mine))
            for windings in all_descending(reference.cut(pattern) + 2):
                had = windings in fewest
                self.same(can_have(pattern, windings), had)
                if not had:
                    self.refused_by_sum(pattern, windings)
                    continue
                self.assertEqual((fewest[windings], with_small[windings]), (least_x(windings),) * 2)
                laying = laying_with(pattern, windings)
                self.same(reference.windings(pattern, laying), windings)
                self.assertEqual((len(laying), laying.count("X")), (len(pattern) // 4, least_x(windings)))
                self.same(can_have(pattern, (*windings, 0)), False)

    def refused_by_sum(self, pattern, windings):
        word = "many" if sum(windings) > reference.cut(pattern) else "unlike"
        self.raises(NotLayable, {"word": word, "at": sum(windings)}, laying_with, pattern, windings)

    def test_great_patterns(self):
        for pattern in (reference_loops.strands(13, tuple(range(1, 13))), reference.drawing(FOUR, 12),
                        reference_loops.strands(9, (8, 7, 6, 5, 4, 3, 2, 1) * 4)):
            cut = reference.cut(pattern)
            for windings in ((cut,), (cut - 1, 1), (1,) * cut, (cut - 2,), (2,) * (cut // 2) + (1,) * (cut % 2)):
                laying = laying_with(pattern, windings)
                self.same(reference.windings(pattern, laying), windings)
                self.assertEqual(laying.count("X"), sum(windings) - len(windings))
            self.refused_by_sum(pattern, (cut, 1))
            self.refused_by_sum(pattern, (cut - 1,))

    def test_least_x(self):
        for windings in all_descending(9):
            self.same(least_x(windings), sum(winding - 1 for winding in windings))
        self.same(least_x(windings=(GREAT, GREAT, 1)), 2 * GREAT - 2)

    def test_with_noughts(self):
        for windings in ((0,), (1, 0), (3, 0), (2, 1, 0, 0), (0, 0)):
            for pattern in (TWO, THREE, LEAF, FAR[0]):
                self.same(can_have(pattern, windings), False)
                self.not_usable("windings", laying_with, pattern, windings)
            self.not_usable("windings", least_x, windings)

    def test_refusals(self):
        self.refuses_in_order(can_have, ("pattern", "windings"), (THREE, (2, 1)), ((), NO_WINDINGS))
        self.refuses_in_order(laying_with, ("pattern", "windings"), (THREE, (3,)), ((), (*NO_WINDINGS, (0,), (3, 0))))
        for bad in NO_WINDINGS:
            self.not_usable("windings", least_x, bad)
        self.raises(NotLayable, {"word": "many", "at": 2 * GREAT}, laying_with, THREE, (GREAT, GREAT))
        self.raises(NotLayable, {"word": "many", "at": 4}, laying_with, THREE, (4,))
        self.raises(NotLayable, {"word": "unlike", "at": 2}, laying_with, THREE, (1, 1))
        self.same(can_have(THREE, (GREAT,)), False)


if __name__ == "__main__":
    unittest.main()
