"""Ends of patterns, or of what may become one, written anew: tuples of pairs (to, shift)."""

EMPTY_CROSSING = ((0, 0), (0, 0), (0, 0), (0, 0))


def with_lines(ends, lines):
    """The ends with each line (end, to, shift) laid, at both of its ends."""
    laid = list(ends)
    for end, to, shift in lines:
        laid[end] = (to, shift)
        laid[to] = (end, -shift)
    return tuple(laid)


def named_anew(ends, names):
    """The ends, end e being called names[e]."""
    named = [(0, 0) for _ in ends]
    for end, (to, shift) in enumerate(ends):
        named[names[end]] = (names[to], shift)
    return tuple(named)


def picked(ends, kept):
    """The ends of the crossings kept alone, whose lines lead among them, numbered in their sequence."""
    places = {crossing: place for place, crossing in enumerate(kept)}
    found = []
    for crossing in kept:
        for to, shift in ends[4 * crossing:4 * crossing + 4]:
            found.append((4 * places[to // 4] + to % 4, shift))
    return tuple(found)


def reached_from(ends, crossing):
    """The ascending list of the crossings to which lines lead from crossing, it among them."""
    reached = {crossing: True}
    waiting = [crossing]
    while waiting:
        here = waiting.pop()
        for to, _ in ends[4 * here:4 * here + 4]:
            if to // 4 not in reached:
                reached[to // 4] = True
                waiting.append(to // 4)
    return sorted(reached)
