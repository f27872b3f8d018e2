import unittest

import reference
from samples import GREAT, LEAF, NO_INTEGERS, SOME, THREE, TWO, WIDE, StrictCase
from test_layingkinds import NO_LAYINGS
from threadsround.drawings import end_told
from threadsround.penrows import pen_rows
from threadsround.threads import threads_of


class PenRowsTest(StrictCase):
    def test_examples(self):
        self.same(pen_rows(TWO, "X", 2), (((0, 0), (1, 3)), ((0, 1), (1, 2))))

    def test_against_the_drawing(self):
        for pattern in [*SOME[::3], WIDE[0]]:
            for sectors in (1, 2, 3):
                whole = reference.drawing(pattern, sectors)
                for laying in reference.layings(pattern)[::11]:
                    wanted = [tuple((end // len(pattern), end % len(pattern)) for end in loop)
                              for loop in reference.loops(whole, laying * sectors)]
                    self.same(pen_rows(pattern, laying, sectors), tuple(wanted))

    def test_beside_threads_of_and_end_told(self):
        for pattern, laying, sectors in ((TWO, "X", 36), (THREE, "LX", 18), (LEAF, "L", 5), (WIDE[1], "DXLXL", 7)):
            wanted = [tuple(end_told(pattern, sectors, end) for end in thread)
                      for thread in threads_of(pattern, laying, sectors)]
            self.same(pen_rows(pattern, laying, sectors), tuple(wanted))
            self.same(pen_rows(pattern=pattern, laying=laying, sectors=sectors), tuple(wanted))

    def test_refusals(self):
        self.refuses_in_order(pen_rows, ("pattern", "laying", "sectors"), (THREE, "DX", 2),
                              ((), NO_LAYINGS, (*NO_INTEGERS, 0, -1, -GREAT)))


if __name__ == "__main__":
    unittest.main()
