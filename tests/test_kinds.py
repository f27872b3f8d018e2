import unittest

from samples import GREAT, NO_INTEGERS, ODD, StrictCase
from threadsround.kinds import is_integer, is_number, is_quotient, is_row, is_word
from threadsround.patternclasses import Pattern


class KindsTest(StrictCase):
    def test_examples(self):
        got = (is_quotient((2, 4)), is_row(()), is_row((0,)), is_word(3, (1, 2, 1)), is_word(3, (1, 1)))
        self.same(got, (False, True, False, True, False))

    def test_integers_and_numbers(self):
        for thing in NO_INTEGERS:
            self.same((is_integer(thing), is_number(thing)), (False, False))
        for thing in (0, 1, 7, GREAT, 10 ** 60 - 1):
            self.same((is_integer(thing), is_number(thing)), (True, True))
        for thing in (-1, -7, -GREAT):
            self.same((is_integer(thing), is_number(thing)), (True, False))

    def test_quotients(self):
        for thing in ((0, 1), (1, 1), (-1, 1), (1, 2), (-3, 2), (GREAT, GREAT + 1), (-GREAT, GREAT - 1), (4, 9)):
            self.same(is_quotient(thing), True)
        bad = [(2, 4), (0, 2), (0, 0), (1, 0), (1, -1), (-1, -1), (3, -2), (0, -1), (GREAT, GREAT), (6, 9), (-2, 2),
               [1, 2], (1,), (1, 2, 3), (True, 2), (1, True), (False, 1), ((1,), 2), (1, "2"), (None, 1), (1, (1, 2)),
               "12", ("1", "2"), {}]
        for thing in [*bad, *ODD]:
            if thing != (1, 0) or thing in bad:
                self.same(is_quotient(thing), False)

    def test_rows(self):
        for thing in ((), (1,), (-1,), (0, 1), (0, 0, -3), (5, 0, 1), (GREAT,), (-GREAT, 0, GREAT), (1,) * 5000):
            self.same(is_row(thing), True)
        for thing in ((0,), (1, 0), (0, 0), (1, 2, 0), [], [1], (True,), (0, True), (False, 1), (1, (1,)), ((1,), 1),
                      (1, None), ("1",), "1", None, True, 1, ((),), ({},)):
            self.same(is_row(thing), False)

    def test_words(self):
        good = [(2, (1,)), (2, (1, 1, 1)), (3, (1, 2)), (3, (2, 1)), (4, (3, 1, 2)), (4, (1, 3, 2, 3, 1)),
                (37, tuple(range(1, 37))), (37, tuple(range(36, 0, -1)))]
        for width, thing in good:
            self.same(is_word(width, thing), True)
            self.same(is_word(width + 1, thing), False)
            self.same(is_word(width - 1, thing), False)
        bad = [(2, ()), (1, ()), (0, ()), (1, (0,)), (1, (1,)), (2, (2,)), (2, (0,)), (2, (0, 1)), (2, (-1, 1)),
               (3, (1, 2, 3)), (3, (1, 1)), (3, (2, 2)), (4, (1, 3)), (4, (1, 2, 0, 3)), (3, (0, 1)), (3, [1, 2]),
               (2, (True,)), (3, (True, 2)), (3, (1, 2, True)), (3, (1, "2")), (3, ((1,), (2,))), (3, "12"),
               (3, (1, 2, GREAT)), (3, (1, 2, -GREAT)), (2, 1), (3, None), (GREAT, (1, 2)), (3, ((1, 2), 1))]
        for width, thing in bad:
            self.same(is_word(width, thing), False)
        for thing in ODD:
            self.same(is_word(3, thing), False)

    def test_objects_are_none_of_these(self):
        thing = Pattern(((1, 1), (0, -1), (3, -1), (2, 1)))
        got = (is_integer(thing), is_number(thing), is_quotient(thing), is_row(thing), is_word(2, thing))
        self.same(got, (False,) * 5)

    def test_by_name(self):
        self.same((is_integer(thing=1), is_number(thing=1), is_quotient(thing=(1, 2)), is_row(thing=(1,)),
                   is_word(width=2, thing=(1,))), (True,) * 5)


if __name__ == "__main__":
    unittest.main()
