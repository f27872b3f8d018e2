"""All layings of a manner, one by one."""

from threadsround.darkties import DarkTies
from threadsround.manners import need_manner


def layings_of(pattern, manner):
    """All layings of the manner, ascending."""
    need_manner(manner)
    ties = DarkTies(pattern, manner)
    begins = [""]
    while begins:
        begin = begins.pop()
        if 4 * len(begin) == len(pattern):
            yield begin
        else:
            # Every beginning kept leads to a laying, so that none is waited for long; D comes off last, so first.
            begins.extend([begin + letter for letter in ("L", "D") if ties.can_begin(begin + letter)])
