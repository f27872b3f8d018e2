import unittest

import reference
import reference_rows
from samples import GREAT, MANY, StrictCase
from threadsround.cutrows import cut_by_row, loops_told


class CutRowsTest(StrictCase):
    def test_examples(self):
        self.same((cut_by_row((0, 2, 1)), cut_by_row((1, 1)), cut_by_row((5,))), (4, 3, 1))
        self.same((loops_told((0, 2, 1)), loops_told((3, 0, 7))), (((2, 2), (4, 1)), ((1, 3), (5, 7))))

    def test_rows(self):
        for row, cut, loops in (((1,), 1, ((1, 1),)), ((-GREAT,), 1, ((1, -GREAT),)), ((0, 1), 2, ((2, 1),)),
                                ((0, 0, 0, 4), 6, ((6, 4),)), ((1, 0, 0, 4), 7, ((1, 1), (7, 4))),
                                ((0, 5, 0, -4, 0, 1), 10, ((2, 5), (6, -4), (10, 1))),
                                ((2, 0, 5, 0, 0, 1), 11, ((1, 2), (5, 5), (11, 1))),
                                ((1, 2, 3, 4, 5, 6, 7, 8), 15, tuple((2 * j + 1, j + 1) for j in range(8)))):
            self.same(cut_by_row(row), cut)
            self.same(cut_by_row(row=row), cut)
            self.same(loops_told(row), loops)
            self.same(loops_told(row=row), loops)

    def test_rows_of_patterns(self):
        for pattern in MANY[::2]:
            row = reference_rows.ring_numbers(pattern)
            self.same(cut_by_row(row), reference.cut(pattern))
            for loops, many in loops_told(row):
                self.assertEqual(many, row[loops // 2])

    def test_refusals(self):
        for function in (cut_by_row, loops_told):
            self.not_usable("row", function, ())
            self.not_usable("row", function, row=())


if __name__ == "__main__":
    unittest.main()
