import random
import unittest

import reference_rows
from reference_rows import Fraction
from samples import FOUR, GREAT, LEAF, MANY, ODD, THREE, TWO, StrictCase
from test_quotients import NO_QUOTIENTS
from test_tables import VALUES, WEBS
from threadsround.determinants import determinant, web_value
from threadsround.tables import table_of
from threadsround.webs import dark_web, light_web


def quotients(lines):
    return tuple(tuple(reference_rows.pair(x) for x in line) for line in lines)


class DeterminantsTest(StrictCase):
    def test_examples(self):
        self.same(determinant((((1, 2), (-1, 2)), ((-2, 1), (1, 2)))), (-3, 4))
        self.same(web_value(light_web(TWO), (2, 1)), (1, 1))

    def check(self, lines):
        wanted = reference_rows.determinant(lines)
        if len(lines) < 6:
            self.assertEqual(reference_rows.expanded(lines), wanted)
        self.same(determinant(quotients(lines)), reference_rows.pair(wanted))

    def test_few_lines(self):
        self.same(determinant(()), (1, 1))
        self.same(determinant((((0, 1),),)), (0, 1))
        self.same(determinant(lines=(((-3, 7),),)), (-3, 7))
        self.check([[0, 1], [1, 0]])
        self.check([[0, 0, 1], [0, 1, 0], [1, 0, 0]])
        self.check([[0, 1, 0], [0, 0, 1], [1, 0, 0]])
        self.check([[1, 2], [2, 4]])
        self.check([[0, 0], [0, 0]])
        self.check([[0, 2, 3], [0, 5, 6], [0, 8, 9]])
        self.check([[1, 2, 3], [2, 4, 6], [1, 1, 1]])
        self.check([[1, 2, 3], [1, 2, 4], [5, 1, 1]])
        self.check([[10 ** 30, 1], [1, Fraction(1, 10 ** 30)]])

    def test_any_lines(self):
        dice = random.Random(5)
        for many in list(range(1, 14)) * 6:
            tops = (-2, -1, 0, 0, 1, 3) if dice.random() < 0.5 else (-GREAT, 7, 0, 10 ** 29)
            lines = [[Fraction(dice.choice(tops), dice.choice((1, 1, 2, 3, 30))) for _ in range(many)] for _ in range(many)]
            self.check(lines)
            # Lines that depend on each other, and two exchanged.
            self.check([*lines[:-1], [x + 2 * y for x, y in zip(lines[0], lines[many // 2 - 1])]] if many > 2 else lines)
            self.check(lines[::-1])

    def test_no_square_of_quotients(self):
        good = (((1, 2), (0, 1)), ((0, 1), (3, 1)))
        self.same(determinant(good), (3, 2))
        bad = [*[thing for thing in ODD if thing != ()], list(good), (list(good[0]), good[1]), good[:1], (*good, good[0]),
               ((), ()), ((),), (good[0], ((0, 1),)), (good[0], (*good[1], (0, 1))), ((1, 2), (3, 4)), (None,), ((None,),),
               (good[0], None), ((1,),), ("", ""), ((((1, 2),),),)]
        bad += [(good[0], ((0, 1), wrong)) for wrong in NO_QUOTIENTS] + [((wrong, (0, 1)), good[1]) for wrong in NO_QUOTIENTS]
        for lines in bad:
            self.not_usable("lines", determinant, lines)
            self.not_usable("lines", determinant, lines=lines)

    def test_web_value(self):
        for web in WEBS:
            for value in VALUES:
                wanted = reference_rows.determinant(reference_rows.table(web, Fraction(*value)))
                self.same(web_value(web, value), reference_rows.pair(wanted))
                self.same(determinant(table_of(web, value)), reference_rows.pair(wanted))
        for pattern in MANY[:-4:3]:
            for web in (dark_web(pattern), light_web(pattern)):
                for value in VALUES[1::3]:
                    wanted = reference_rows.determinant(reference_rows.table(web, Fraction(*value)))
                    self.same(web_value(web=web, value=value), reference_rows.pair(wanted))
        self.same(web_value(light_web(LEAF), (5, 1)), (1, 1))
        for web in (dark_web(THREE), light_web(LEAF), dark_web(FOUR)):
            self.refuses_in_order(web_value, ("web", "value"), (web, (3, 2)), ((), (*NO_QUOTIENTS, (0, 1))))


if __name__ == "__main__":
    unittest.main()
