"""Patterns mirrored and turned inside out."""

from threadsround.relinings import named_anew


def mirrored(pattern):
    """The pattern with the sign of each shift changed and positions counted the other way round."""
    names = [end - end % 4 + (4 - end % 4) % 4 for end in range(len(pattern))]
    return named_anew(inside_out(pattern), names)


def inside_out(pattern):
    """The pattern with the sign of each shift changed."""
    return tuple([(to, -shift) for to, shift in pattern])
