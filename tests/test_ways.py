import unittest
from itertools import product

import reference
import reference_loops
from samples import FEW, FOUR, GREAT, LEAF, MANY, NAMED, ODD, SOME, THREE, TWO, WIDE, StrictCase
from threadsround.ways import is_way, shortest_way, way_total, ways_count


class WaysTest(StrictCase):
    def test_examples(self):
        self.same((is_way(THREE, (0, 1, 0, 4, 7)), is_way(THREE, (0, 3))), (True, False))
        self.same((ways_count(THREE), len(shortest_way(TWO)), way_total(THREE, (0, 3, 7), (0, 2, 7, 5))), (2, 2, 1))
        self.assertIn(shortest_way(TWO), reference_loops.ways(TWO, 2))

    def test_is_way_for_all_short_tuples(self):
        for pattern in (*NAMED, *FEW[20:40:2]):
            for length in range(1, 4):
                right = set(reference_loops.ways(pattern, length))
                for thing in product(range(len(pattern)), repeat=length):
                    self.same(is_way(pattern, thing), thing in right)

    def test_long_ways_with_ends_twice(self):
        twice = 0
        for pattern in FEW:
            cut = reference.cut(pattern)
            for length in range(cut + 1, cut + 4):
                ways = reference_loops.ways(pattern, length)
                # The number of ends is like the cut modulo 2.
                self.assertEqual(bool(ways), (length - cut) % 2 == 0)
                for way in ways[::9]:
                    twice += len(set(way)) < len(way)
                    self.same(is_way(pattern, way), True)
                    for k in range(length):
                        for end in range(0, len(pattern), 2):
                            changed = way[:k] + (end,) + way[k + 1:]
                            self.same(is_way(pattern, changed), changed in ways)
        self.assertGreater(twice, 50)
        # To the outside and back to the middle, on and on.
        there, back = (0, 3), (2, 1)
        self.same((is_way(TWO, there), is_way(TWO, there + back), is_way(TWO, there + back + there)), (True, False, True))
        self.same(is_way(TWO, (there + back) * 1000 + there), True)

    def test_no_ways(self):
        for thing in (*ODD, (), (True, 3), (False, 3), (0, True), [0, 3], (0, 3, 3), (0,), (3,), (0, 4), (0, -1), (3, 0),
                      ("0", 3), (0, None), (0, (3,)), ((0, 3),), (0.0, 3), (GREAT, 3), "03", 3, (0, 3, 2), (0, 7)):
            self.same(is_way(TWO, thing), False)
            self.not_usable("way", way_total, TWO, thing, (0,))
        self.same(is_way(pattern=TWO, thing=(0, 3)), True)

    def test_shortest_way(self):
        for pattern in [*MANY, FOUR, LEAF]:
            way = shortest_way(pattern)
            self.assertEqual([type(way), *map(type, way)], [tuple] + [int] * reference.cut(pattern))
            self.assertTrue(is_way(pattern, way))
            if len(pattern) < 20:
                self.assertIn(way, reference_loops.ways(pattern, reference.cut(pattern)))
        self.same(len(shortest_way(pattern=reference.drawing(THREE, 18))), 3)

    def test_ways_count(self):
        for pattern in MANY:
            many = ways_count(pattern)
            self.same(many, len(reference_loops.ways(pattern, reference.cut(pattern))))
        for pattern in [*NAMED, *FEW[::3], WIDE[1]]:
            for sectors in (2, 3, 5):
                self.same(ways_count(reference.drawing(pattern, sectors)), sectors * ways_count(pattern))
        self.same(ways_count(pattern=reference.drawing(THREE, 18)), 36)

    def test_way_total_is_the_walks_total(self):
        for pattern in SOME[::3]:
            cut = reference.cut(pattern)
            ways = reference_loops.ways(pattern, cut) + reference_loops.ways(pattern, cut + 2)[::17]
            walks = [*reference.faces(pattern)]
            for laying in reference.layings(pattern)[::7]:
                walks += reference.loops(pattern, laying)
            for way in ways[:12]:
                for walk in walks:
                    wanted = sum(way.count(end) - way.count(pattern[end][0]) for end in walk)
                    self.assertEqual(wanted, sum(pattern[end][1] for end in walk))
                    self.same(way_total(pattern, way, walk), wanted)
        self.same(way_total(THREE, (0, 1, 0, 4, 7), (0, 0, 0, 1)), 2)
        self.same(way_total(pattern=TWO, way=(0, 3), walk=(1,) * 300), -300)

    def test_refusals(self):
        self.refuses_in_order(way_total, ("pattern", "way", "walk"), (THREE, (0, 3, 7), (0, 2, 7, 5)),
                              ((), ((), (0, 3), [0, 3, 7], (False, 3, 7), None, 0), ((), (2,), [0], (False,), None, "0", (8,))))


if __name__ == "__main__":
    unittest.main()
