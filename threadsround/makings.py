"""Layings with given windings."""

from threadsround.distances import cut_of
from threadsround.kinds import is_number
from threadsround.loops import loop_numbers
from threadsround.lows import lows_laying
from threadsround.meltings import melted_down
from threadsround.needs import need
from threadsround.nests import nest_of


def is_windings(thing):
    """Whether thing is a nonempty tuple of numbers, each at most the one before it."""
    if not isinstance(thing, tuple) or thing == () or not all([is_number(number) for number in thing]):
        return False
    return all([thing[k] <= thing[k - 1] for k in range(1, len(thing))])


def can_have(pattern, windings):
    """Whether some laying without small loops has these windings."""
    need(is_windings(windings), "windings")
    cut = cut_of(pattern)
    return 0 not in windings and sum(windings) <= cut and (cut - sum(windings)) % 2 == 0


def least_x(windings):
    """The fewest X of a laying with these windings, none of them 0."""
    need(is_windings(windings) and 0 not in windings, "windings")
    return sum(windings) - len(windings)


def meeting_of(numbers, place):
    """A crossing at which the loops with this number and the next one meet, numbers being told for each end."""
    crossings = [end // 4 for end in range(0, len(numbers), 4)
                 if sorted(set(numbers[end:end + 4])) == [place, place + 1]]
    return crossings[0]


def laying_with(pattern, windings):
    """A laying with just these windings and as few X as can be."""
    many = least_x(windings) + len(windings)
    # As many loops of the lows laying go round as the cut is great, so this refuses what cannot be had.
    plain = melted_down(pattern, lows_laying(pattern), many)
    numbers = loop_numbers(pattern, nest_of(pattern, plain))
    letters = list(plain)
    place = 0
    for winding in windings:
        # Loops that go round next to each other, led across where they meet, become one with both their windings.
        for inner in range(place, place + winding - 1):
            letters[meeting_of(numbers, inner)] = "X"
        place += winding
    return "".join(letters)
