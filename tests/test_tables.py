import unittest

import reference_rows
from samples import FOUR, GREAT, LEAF, MANY, NO_INTEGERS, THREE, TWO, StrictCase
from test_quotients import NO_QUOTIENTS
from threadsround.tables import table_of
from threadsround.webs import dark_web, light_web

VALUES = ((1, 1), (-1, 1), (2, 1), (-2, 1), (1, 2), (-3, 2), (5, 7), (999, 998), (-998, 999))
WEBS = (((0,), (), ()), ((0, 1), (), ((0, 1, 40), (1, 0, -40), (1, 1, 7), (0, 0, 0))), ((0, 1, 5), (1,), ((0, 1, 3), (2, 0, 2))),
        ((3, 4), (0, 1), ((0, 1, 1),)), (tuple(range(13)), (0, 12), tuple((k, k + 1, k - 6) for k in range(12))))


class TablesTest(StrictCase):
    def test_examples(self):
        self.same(dark_web(FOUR)[2], ((0, 0, 1), (0, 1, -1), (1, 1, 1)))
        self.same(table_of(dark_web(FOUR), (2, 1)), (((1, 2), (-1, 2)), ((-2, 1), (1, 2))))
        self.same(table_of(dark_web(TWO), (2, 1)), (((-1, 2),),))

    def check(self, web, value):
        wanted = reference_rows.table(web, reference_rows.Fraction(*value))
        lines = tuple(tuple(reference_rows.pair(x) for x in line) for line in wanted)
        self.same(table_of(web, value), lines)
        self.same(table_of(web=web, value=value), lines)

    def test_beside_the_definition(self):
        for web in WEBS:
            for value in VALUES:
                self.check(web, value)
        for pattern in MANY[:-4:2]:
            for value in VALUES[::3]:
                self.check(dark_web(pattern), value)
                self.check(light_web(pattern), value)

    def test_all_places_firm(self):
        for value in VALUES:
            self.same(table_of(((3, 4), (0, 1), ((0, 1, 1),)), value), ())
            self.same(table_of(light_web(LEAF), value), ())

    def test_at_one_the_lines_without_firm_places_sum_up_to_nought(self):
        for line in table_of(((0, 1, 2), (), ((0, 1, 9), (1, 2, -3), (2, 2, 1))), (1, 1)):
            self.assertEqual(sum(top for top, _ in line), 0)

    def test_refusals(self):
        for web in (*WEBS, dark_web(THREE)):
            self.refuses_in_order(table_of, ("web", "value"), (web, (3, 2)),
                                  ((), (*NO_QUOTIENTS, *NO_INTEGERS[:7], (0, 1), (0, 2), GREAT, [1, 1])))


if __name__ == "__main__":
    unittest.main()
