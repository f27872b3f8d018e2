"""Shifts found from the totals that faces must have."""

from threadsround.faces import faces_of


def tree_ends(tos):
    """The ends, two for each line, of lines that hang all crossings together without a ring."""
    reached = {0: True}
    waiting = [0]
    found = []
    while waiting:
        here = waiting.pop()
        for end in range(4 * here, 4 * here + 4):
            to = tos[end]
            if to // 4 not in reached:
                reached[to // 4] = True
                waiting.append(to // 4)
                found.extend([end, to])
    return found


def with_totals(tos, totals):
    """Ends with these to's, whose faces, by their numbers, have these totals."""
    faces = faces_of(tuple([(to, 0) for to in tos]))
    shifts = {end: 0 for end in tree_ends(tos)}
    # The other lines join the faces as a tree, too: while a shift is wanted, some face wants just one.
    while len(shifts) < len(tos):
        for face, total in zip(faces, totals):
            wanting = [corner for corner in face if corner not in shifts]
            if len(wanting) == 1:
                corner = wanting[0]
                shifts[corner] = total - sum([shifts[other] for other in face if other != corner])
                shifts[tos[corner]] = -shifts[corner]
    return tuple([(to, shifts[end]) for end, to in enumerate(tos)])
