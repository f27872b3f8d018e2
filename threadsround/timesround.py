"""Threads that go round so many times."""

from math import gcd

from threadsround.distances import cut_of
from threadsround.errors import NotLayable
from threadsround.kinds import is_count, is_integer_pair
from threadsround.makings import laying_with
from threadsround.needs import need


def part_of(sectors, many):
    """The greatest divisor of sectors all of whose prime divisors divide many."""
    part = 1
    left = sectors
    common = gcd(left, many)
    while common > 1:
        part = part * common
        left = left // common
        common = gcd(left, many)
    return part


def part_by(sectors, many):
    """The part of sectors by many."""
    need(is_count(sectors), "sectors")
    need(is_count(many), "many")
    return part_of(sectors, many)


def is_times(thing):
    """Whether thing is a nonempty ascending tuple of pairs (times round, how many), both at least 1."""
    if not isinstance(thing, tuple) or thing == ():
        return False
    if not all([is_integer_pair(pair) and pair[0] >= 1 and pair[1] >= 1 for pair in thing]):
        return False
    return all([thing[k - 1][0] < thing[k][0] for k in range(1, len(thing))])


def need_sectors_and_times(sectors, times):
    """Refuse the first of these two that is not as stated."""
    need(is_count(sectors), "sectors")
    need(is_times(times), "times")


def all_rounds(times):
    """How many rounds all threads make together."""
    return sum([rounds * many for rounds, many in times])


def first_block(sectors, times):
    """The first of the times round whose threads cannot be so many, or None."""
    for rounds, many in times:
        if many % part_of(sectors, rounds) != 0:
            return rounds
    return None


def can_times(pattern, sectors, times):
    """Whether some laying makes such threads, and no others, in the drawing of sectors."""
    need_sectors_and_times(sectors, times)
    cut = cut_of(pattern)
    whole = all_rounds(times)
    return whole <= cut and (cut - whole) % 2 == 0 and first_block(sectors, times) is None


def times_x(sectors, times):
    """The fewest X, in one sector, of a laying that makes such threads."""
    need_sectors_and_times(sectors, times)
    block = first_block(sectors, times)
    if block is not None:
        raise NotLayable("blocks", block)
    return all_rounds(times) - sum([many // part_of(sectors, rounds) for rounds, many in times])


def lay_times(pattern, sectors, times):
    """A laying with as few X that makes such threads in the drawing of sectors."""
    need_sectors_and_times(sectors, times)
    cut = cut_of(pattern)
    whole = all_rounds(times)
    if whole > cut:
        raise NotLayable("many", whole)
    if (cut - whole) % 2 == 1:
        raise NotLayable("unlike", whole)
    times_x(sectors, times)
    windings = []
    for rounds, many in times:
        # A loop of winding rounds * part makes just part threads that go round so many times.
        part = part_of(sectors, rounds)
        windings.extend([rounds * part] * (many // part))
    return laying_with(pattern, tuple(sorted(windings, reverse=True)))
