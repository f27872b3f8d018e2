"""Crossings smoothed away."""

from threadsround.colours import dark_corners, light_corners
from threadsround.errors import NotSmooth
from threadsround.faces import middle_of, numbers_at, outside_of
from threadsround.joints import led_on, others_than
from threadsround.needs import is_crossing, is_letter, need
from threadsround.relinings import picked


def corners_run_together(pattern, crossing, letter):
    """The pair of the corners of crossing that letter runs together."""
    return dark_corners(pattern, crossing) if letter == "D" else light_corners(pattern, crossing)


def smooth_word(pattern, crossing, letter):
    """The first word that fits: "alone", "joined", "apart" or "sound"."""
    need(is_crossing(pattern, crossing), "crossing")
    need(is_letter(letter), "letter")
    if len(pattern) == 4:
        return "alone"
    numbers = numbers_at(pattern)
    met = sorted([numbers[corner] for corner in corners_run_together(pattern, crossing, letter)])
    if met == sorted([middle_of(pattern), outside_of(pattern)]):
        return "joined"
    return "apart" if met[0] == met[1] else "sound"


def smoothed(pattern, crossing, letter):
    """The pattern without the crossing, its lines led on as letter joins them."""
    word = smooth_word(pattern, crossing, letter)
    if word != "sound":
        raise NotSmooth(word)
    return picked(led_on(pattern, crossing, letter), others_than(pattern, crossing))
