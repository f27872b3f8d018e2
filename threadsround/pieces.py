"""Faces that a plain laying runs together, and the loops beside them."""

from threadsround.colours import dark_faces
from threadsround.ends import end_before
from threadsround.faces import numbers_at
from threadsround.kinds import is_integer_tuple
from threadsround.layingkinds import need_plain
from threadsround.loops import loops_of
from threadsround.needs import need
from threadsround.smoothings import corners_run_together


def faces_run_together(pattern, laying, letter):
    """The pairs of numbers of the faces whose corners are run together, one for each crossing with letter."""
    numbers = numbers_at(pattern)
    pairs = []
    for crossing, told in enumerate(laying):
        if told == letter:
            one, other = corners_run_together(pattern, crossing, letter)
            pairs.append((numbers[one], numbers[other]))
    return pairs


def pieces_by(pattern, laying, letter):
    """The set of the pieces of dark faces, for D, or of light ones, for L."""
    need_plain(pattern, laying)
    pieces = [(number,) for number, dark in enumerate(dark_faces(pattern)) if dark == (letter == "D")]
    for pair in faces_run_together(pattern, laying, letter):
        joined = [piece for piece in pieces if pair[0] in piece or pair[1] in piece]
        others = [piece for piece in pieces if piece not in joined]
        pieces = [*others, tuple([number for piece in joined for number in piece])]
    return tuple(sorted([tuple(sorted(piece)) for piece in pieces]))


def dark_pieces(pattern, laying):
    """The set of the dark pieces of a plain laying."""
    return pieces_by(pattern, laying, "D")


def light_pieces(pattern, laying):
    """The set of the light pieces of a plain laying."""
    return pieces_by(pattern, laying, "L")


def need_piece(pattern, laying, piece):
    """Refuse the first of laying, which is plain, and piece that is not as stated."""
    pieces = dark_pieces(pattern, laying) + light_pieces(pattern, laying)
    need(is_integer_tuple(piece) and piece in pieces, "piece")


def rings_in(pattern, laying, piece):
    """How many crossings run faces of the piece together, less its faces, plus 1."""
    need_piece(pattern, laying, piece)
    letter = "D" if dark_faces(pattern)[piece[0]] else "L"
    pairs = [pair for pair in faces_run_together(pattern, laying, letter) if pair[0] in piece]
    return len(pairs) - len(piece) + 1


def borders_of(pattern, laying, piece):
    """The loops that pass a line beside a face of the piece, ascending."""
    need_piece(pattern, laying, piece)
    numbers = numbers_at(pattern)
    borders = []
    for loop in loops_of(pattern, laying):
        if any([numbers[end] in piece or numbers[end_before(end)] in piece for end in loop]):
            borders.append(loop)
    return tuple(borders)
