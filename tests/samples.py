"""Patterns and odd values for the tests, and a test case that tells True from 1."""

import random
import unittest

import corpus
import reference
import reference_loops

TWO = ((1, 1), (0, -1), (3, -1), (2, 1))
THREE = ((1, 1), (0, -1), (4, -1), (5, 0), (2, 1), (3, 0), (7, -1), (6, 1))
FOUR = ((1, 1), (0, -1), (4, -1), (5, 0), (2, 1), (3, 0), (8, -1), (9, 0), (6, 1), (7, 0), (11, -1), (10, 1))
LEAF = ((1, 1), (0, -1), (3, 0), (2, 0))
NAMED = (TWO, THREE, FOUR, LEAF)


def told_by(line):
    """The pattern of a line, read without the package."""
    pairs = []
    for field in line.split(" "):
        to, _, size = field.replace("-", "+-").partition("+")
        pairs.append((int(to), int(size)))
    return tuple(pairs)


def all_told(lines):
    return [told_by(line) for line in lines.strip().split("\n")]


ONES = reference.all_patterns(1)
TWOS = reference.all_patterns(2)
SOME_TWOS = TWOS[::13]
THREES = all_told(corpus.THREES)
FOURS = all_told(corpus.FOURS)
FEW = [*NAMED, *ONES, *TWOS[::37], *THREES[::4], *FOURS[::7]]
SOME = [*NAMED, *ONES, *SOME_TWOS, *THREES, *FOURS[::2]]

WIDE = [reference_loops.strands(width, word) for width, word in
        ((5, (1, 2, 3, 4)), (5, (3, 1, 4, 2, 3)), (6, (5, 3, 1, 2, 4)), (4, (2, 1, 3, 2, 1)), (3, (1, 2, 1, 2, 2)))]
DRAWN = [reference.drawing(FOUR, 2), reference.drawing(LEAF, 3), reference.drawing(THREES[30], 2)]
FAR = [reference.moved_crossings(pattern, (3, -700001, 999999, -5)) for pattern in (THREE, FOUR, FOURS[9], FOURS[31])]
MANY = [*SOME, *WIDE, *DRAWN, *FAR]


def grown(dice, crossings):
    """A pattern of so many crossings, grown from one of one crossing by chance."""
    pattern = dice.choice(ONES)
    while len(pattern) < 4 * crossings:
        face = dice.choice(reference.faces(pattern))
        if len(face) > 1 and dice.random() < 0.8:
            corner, other = dice.sample(face, 2)
            pattern = reference.put_in(pattern, corner, other)
        elif dice.random() < 0.3:
            end = dice.choice(face)
            pattern = reference.petal_on(pattern, end, dice.choice((0, sum(pattern[corner][1] for corner in face))))
    return pattern


DICE = random.Random(9)
GROWN = [grown(DICE, crossings) for crossings in (5, 6, 7, 8) for _ in range(6)]

GREAT = 10 ** 59 + 7
OTHER_LETTER = {"D": "L", "L": "D", "X": "X"}
# None of these is an integer; whoever takes one for 1 or 0 has not looked at its kind.
NO_INTEGERS = (True, False, None, "", "0", "1", "D", (), (0,), (1, 0), [], [0], ((0,),), (None,))
NO_TUPLES = (True, False, None, 0, 1, -1, GREAT, "", "D", "0+0", [], [0], [(1, 1), (0, -1)])
ODD = (*NO_INTEGERS, -1, -GREAT, GREAT, "DL", "x" * 4000, (True, False), ((), ()), ((((1,),),),), [[], ()])


class StrictCase(unittest.TestCase):
    """Compares by what is written, so that True is not 1 and a list is no tuple."""

    def same(self, got, wanted):
        self.assertEqual(repr(got), repr(wanted))

    def raises(self, error, fields, function, *args, **named):
        """The call raises just this error with just these fields."""
        try:
            got = function(*args, **named)
        except Exception as e:
            self.assertIs(type(e), error, (function.__name__, args, named, e))
            self.assertEqual(repr(vars(e)), repr(fields), (function.__name__, args, named))
        else:
            self.fail(f"{function.__name__}{args!r} {named!r} returned {got!r}")

    def not_usable(self, name, function, *args, **named):
        from threadsround.errors import NotUsable
        self.raises(NotUsable, {"word": name, "at": -1}, function, *args, **named)

    def invalid(self, word, at, function, *args):
        from threadsround.errors import InvalidPaper
        self.raises(InvalidPaper, {"word": word, "at": at}, function, *args)

    def refuses_in_order(self, function, names, good, bad):
        """Each argument beyond those of good ones that is bad is refused, the first one first, by name and place.

        good has an argument for each of names; bad has for each of names a tuple of bad values, () for unchecked.
        """
        for k, name in enumerate(names):
            for value in bad[k]:
                args = list(good)
                args[k] = value
                self.not_usable(name, function, *args)
                self.not_usable(name, function, **dict(zip(names, args)))
                for later in range(k + 1, len(names)):
                    if bad[later]:
                        args[later] = bad[later][0]
                self.not_usable(name, function, *args)
        self.same(function(**dict(zip(names, good))), function(*good))
