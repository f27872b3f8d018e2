import unittest

from samples import GREAT, NO_INTEGERS, SOME, THREE, TWO, StrictCase
from threadsround.ends import crossing_of, end_across, end_before, lines_of, next_end, partner_of, shift_of


class EndsTest(StrictCase):
    def test_examples(self):
        got = (crossing_of(7), next_end(7), end_before(4), end_across(5), partner_of(THREE, 3), lines_of(TWO))
        self.same(got, (1, 4, 7, 7, 5, ((0, 1, 1), (2, 3, -1))))

    def test_round_a_crossing(self):
        for crossing in (0, 1, 2, 8, 1249, 10 ** 30, GREAT):
            for position in range(4):
                end = 4 * crossing + position
                self.same(crossing_of(end), crossing)
                self.same(next_end(end), 4 * crossing + (position + 1) % 4)
                self.same(end_across(end), 4 * crossing + (position + 2) % 4)
                self.same(end_before(end), 4 * crossing + (position + 3) % 4)

    def test_lines(self):
        for pattern in SOME:
            for end, (to, shift) in enumerate(pattern):
                self.same((partner_of(pattern, end), shift_of(pattern, end)), (to, shift))
            wanted = sorted((end, to, shift) for end, (to, shift) in enumerate(pattern) if to > end)
            self.same(lines_of(pattern), tuple(wanted))
            self.assertEqual(2 * len(lines_of(pattern)), len(pattern))

    def test_refusals(self):
        for function in (crossing_of, next_end, end_before, end_across):
            self.refuses_in_order(function, ("end",), (7,), ((*NO_INTEGERS, -1, -GREAT),))
        for function in (partner_of, shift_of):
            self.refuses_in_order(function, ("pattern", "end"), (THREE, 7), ((), (*NO_INTEGERS, -1, 8, 9, GREAT)))
        self.same(partner_of(TWO, 0), 1)
        self.not_usable("end", partner_of, TWO, 4)


if __name__ == "__main__":
    unittest.main()
