"""How many lines lie between the middle and each face."""

from threadsround.faces import middle_of, outside_of, steps_from


def distances_of(pattern):
    """The distances of the faces from the middle, by their numbers."""
    middle = middle_of(pattern)
    distances = {middle: 0}
    for face, _, beside in steps_from(pattern, middle):
        distances[beside] = distances[face] + 1
    return tuple([distances[number] for number in range(len(distances))])


def cut_of(pattern):
    """The cut: the distance of the outside."""
    return distances_of(pattern)[outside_of(pattern)]
