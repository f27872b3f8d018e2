"""What smoothing and putting in would lead to, all over a pattern."""

from threadsround.distances import cut_of
from threadsround.faces import faces_of
from threadsround.needs import LETTERS
from threadsround.smoothings import smooth_word, smoothed


def cut_smoothed(pattern, crossing, letter):
    """The cut of the pattern smoothed, or None where this is not sound."""
    if smooth_word(pattern, crossing, letter) != "sound":
        return None
    return cut_of(smoothed(pattern, crossing, letter))


def smooth_menu(pattern):
    """For each crossing the pair of the cuts of the pattern smoothed there by D and by L."""
    return tuple([tuple([cut_smoothed(pattern, crossing, letter) for letter in LETTERS])
                  for crossing in range(len(pattern) // 4)])


def put_menu(pattern):
    """For each face how many sets of two of its corners there are."""
    return tuple([len(face) * (len(face) - 1) // 2 for face in faces_of(pattern)])
