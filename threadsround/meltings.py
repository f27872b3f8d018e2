"""Two loops melted into one by exchanging D and L at a crossing that both meet."""

from threadsround.errors import NotLayable
from threadsround.faces import walk_sum
from threadsround.kinds import is_count
from threadsround.layingkinds import need_plain
from threadsround.loops import loop_numbers, loops_of, windings_of
from threadsround.needs import is_crossing, need
from threadsround.nests import meetings

EXCHANGED = {"D": "L", "L": "D"}


def can_melt(pattern, laying, crossing):
    """Whether two different loops of the plain laying meet crossing."""
    need_plain(pattern, laying)
    need(is_crossing(pattern, crossing), "crossing")
    return crossing in meetings(pattern, laying)


def melted(pattern, laying, crossing):
    """The laying with D and L exchanged at crossing, where two loops meet."""
    need(can_melt(pattern, laying, crossing), "crossing")
    return laying[:crossing] + EXCHANGED[laying[crossing]] + laying[crossing + 1:]


def meetings_of_small(pattern, laying):
    """The crossings at which a small loop meets another one."""
    loops = loops_of(pattern, laying)
    numbers = loop_numbers(pattern, loops)
    small = [walk_sum(pattern, loop) == 0 for loop in loops]
    return [crossing for crossing in meetings(pattern, laying)
            if any([small[numbers[end]] for end in range(4 * crossing, 4 * crossing + 4)])]


def melted_down(pattern, laying, many):
    """A plain laying with just many loops, all of them going round."""
    need_plain(pattern, laying)
    need(is_count(many), "many")
    windings = windings_of(pattern, laying)
    going_round = len(windings) - windings.count(0)
    if many > going_round:
        raise NotLayable("many", many)
    if (going_round - many) % 2 == 1:
        raise NotLayable("unlike", many)
    now = laying
    # Two loops that go round melt into a small one, which then melts into a third one.
    while len(windings) > many:
        places = meetings_of_small(pattern, now) if 0 in windings else meetings(pattern, now)
        now = melted(pattern, now, places[0])
        windings = windings_of(pattern, now)
    return now
