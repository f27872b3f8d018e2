import unittest

import interface
from threadsround import errors


class Thing:
    pass


class ErrorsTest(unittest.TestCase):
    def test_families(self):
        self.assertIs(errors.ThreadError.__base__, ValueError)
        for name, (base, _) in interface.ERRORS.items():
            kind = getattr(errors, name)
            self.assertEqual([b.__name__ for b in kind.__bases__], [base], name)
        for family in ("PaperError", "PatternError", "LiveError", "TextError"):
            self.assertIs(getattr(errors, family).__base__, errors.ThreadError)

    def test_fields_by_position_and_by_name(self):
        for name, (_, fields) in interface.ERRORS.items():
            if fields is None:
                continue
            kind = getattr(errors, name)
            for values in ([[], {}], [Thing(), (1, [2])], [True, None], ["a", 10 ** 60], [Thing, kind]):
                values = values[:len(fields)]
                for error in (kind(*values), kind(**dict(zip(fields, values)))):
                    self.assertEqual(sorted(vars(error)), sorted(fields))
                    for field, value in zip(fields, values):
                        self.assertIs(getattr(error, field), value)

    def test_just_these_fields(self):
        for name, (_, fields) in interface.ERRORS.items():
            if fields is None:
                continue
            kind = getattr(errors, name)
            for many in range(4):
                if many != len(fields):
                    self.assertRaises(TypeError, kind, *range(many))
            self.assertRaises(TypeError, lambda: kind(**{field + "s": 0 for field in fields}))

    def test_raised_and_caught_by_each_base(self):
        for base in (errors.NotUsable, errors.PatternError, errors.ThreadError, ValueError):
            try:
                raise errors.NotUsable("end", -1)
            except base as caught:
                self.assertEqual((caught.word, caught.at), ("end", -1))


if __name__ == "__main__":
    unittest.main()
