"""Whether any value is an integer, a number, a quotient, a row or a word."""

from math import gcd


def is_integer(thing):
    """Whether thing is an int that is no bool."""
    return isinstance(thing, int) and not isinstance(thing, bool)


def is_number(thing):
    """Whether thing is an integer that is at least 0."""
    return is_integer(thing) and thing >= 0


def is_count(thing):
    """Whether thing is an integer that is at least 1."""
    return is_integer(thing) and thing >= 1


def is_integer_tuple(thing):
    """Whether thing is a tuple, perhaps empty, of integers."""
    return isinstance(thing, tuple) and all([is_integer(number) for number in thing])


def is_integer_pair(thing):
    """Whether thing is a pair of integers."""
    return is_integer_tuple(thing) and len(thing) == 2


def is_quotient(thing):
    """Whether thing is a quotient (top, bottom) in lowest terms, bottom at least 1."""
    return is_integer_pair(thing) and thing[1] >= 1 and gcd(thing[0], thing[1]) == 1


def is_row(thing):
    """Whether thing is a tuple of integers without a 0 at its end."""
    return is_integer_tuple(thing) and (thing == () or thing[-1] != 0)


def is_word(width, thing):
    """Whether thing has the integers from 1 to width - 1, each at least once, and no others."""
    if not is_integer_tuple(thing) or thing == ():
        return False
    # Counting the unlike letters, and not trying each one, keeps great widths quick.
    return min(thing) >= 1 and max(thing) < width and len(set(thing)) == width - 1
