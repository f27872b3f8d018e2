"""Patterns of strands that run round the middle and cross by a word."""

from threadsround.kinds import is_integer, is_word
from threadsround.needs import need
from threadsround.relinings import EMPTY_CROSSING, with_lines


def strand_lines(word, place):
    """The lines of the strand at place, from the first crossing that has it round to it again."""
    met = [crossing for crossing, letter in enumerate(word) if letter in (place - 1, place)]
    lines = []
    for k, crossing in enumerate(met):
        is_last = k + 1 == len(met)
        after = met[0] if is_last else met[k + 1]
        leaving = 4 * crossing + (0 if word[crossing] == place else 3)
        coming = 4 * after + (1 if word[after] == place else 2)
        lines.append((leaving, coming, 1 if is_last else 0))
    return lines


def strand_pattern(width, word):
    """The pattern of width strands with a crossing for each letter of word."""
    need(is_integer(width) and width >= 2, "width")
    need(is_word(width, word), "word")
    ends = EMPTY_CROSSING * len(word)
    for place in range(1, width + 1):
        ends = with_lines(ends, strand_lines(word, place))
    return ends
