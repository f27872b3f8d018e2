"""Whether any value is a pattern, and why not."""

from threadsround.errors import InvalidPaper
from threadsround.faces import faces_of, totals_of
from threadsround.kinds import is_integer_pair
from threadsround.relinings import reached_from


def has_shape(thing):
    """Whether thing is a nonempty tuple with four elements for each crossing."""
    return isinstance(thing, tuple) and len(thing) > 0 and len(thing) % 4 == 0


def tells_line(thing, end):
    """Whether element end of thing is a pair of another end and an integer."""
    pair = thing[end]
    return is_integer_pair(pair) and 0 <= pair[0] < len(thing) and pair[0] != end


def is_pair_of(thing, first, second):
    """Whether thing is the pair of these two integers."""
    return is_integer_pair(thing) and thing == (first, second)


def first_apart(ends):
    """The least crossing to which no lines lead from crossing 0, or None."""
    reached = reached_from(ends, 0)
    for place, crossing in enumerate(reached):
        if place != crossing:
            return place
    return len(reached) if 4 * len(reached) < len(ends) else None


def lets_pattern(thing):
    """The number of crossings of thing; InvalidPaper if it is no pattern."""
    if not has_shape(thing):
        raise InvalidPaper("shape", -1)
    for end in range(len(thing)):
        if not tells_line(thing, end):
            raise InvalidPaper("end", end)
        to, shift = thing[end]
        if not is_pair_of(thing[to], end, -shift):
            raise InvalidPaper("back", end)
    apart = first_apart(thing)
    if apart is not None:
        raise InvalidPaper("apart", apart)
    many = len(thing) // 4
    faces = len(faces_of(thing))
    if faces != many + 2:
        raise InvalidPaper("faces", faces)
    if sorted(totals_of(thing)) != [-1] + [0] * many + [1]:
        raise InvalidPaper("totals", -1)
    return many


def is_pattern(thing):
    """Whether thing is a pattern."""
    try:
        lets_pattern(thing)
    except InvalidPaper:
        return False
    return True
