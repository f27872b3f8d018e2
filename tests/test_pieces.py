import unittest

import reference
import reference_loops
from samples import FEW, FOUR, GREAT, LEAF, MANY, SOME, THREE, TWO, StrictCase
from test_layingkinds import NO_LAYINGS
from threadsround.pieces import borders_of, dark_pieces, light_pieces, rings_in

NOT_PLAIN = (*NO_LAYINGS, "DX", "XX", "XL")


def rings(ends, laying, piece):
    """Crossings that run corners of the piece together, less its faces, plus 1."""
    letter = "D" if reference.colours(ends)[piece[0]] == "dark" else "L"
    many = 0
    for c, told in enumerate(laying):
        if told == letter:
            one, other = (reference.face_number(ends, corner) for corner in reference.letter_corners(ends, c, letter))
            many += one in piece and other in piece
    return many - len(piece) + 1


def borders(ends, laying, piece):
    near = reference_loops.sides(ends)
    return tuple(loop for loop in reference.loops(ends, laying) if any(set(near[end]) & set(piece) for end in loop))


class PiecesTest(StrictCase):
    def test_examples(self):
        self.same(borders_of(THREE, "DD", (0, 2)), ((0, 2, 5), (6,)))

    def test_pieces_of_all_plain_layings(self):
        for pattern in MANY:
            for laying in reference.layings(pattern, "DL"):
                self.same(dark_pieces(pattern, laying), reference_loops.pieces(pattern, laying, "D"))
                self.same(light_pieces(pattern, laying), reference_loops.pieces(pattern, laying, "L"))

    def test_rings_and_borders(self):
        for pattern in SOME[::2]:
            for laying in reference.layings(pattern, "DL"):
                for letter in "DL":
                    for piece in reference_loops.pieces(pattern, laying, letter):
                        self.same(rings_in(pattern, laying, piece), rings(pattern, laying, piece))
                        its = borders_of(pattern, laying, piece)
                        self.same(its, borders(pattern, laying, piece))
                        # A piece has one border more than rings.
                        self.assertEqual(len(its), rings(pattern, laying, piece) + 1)

    def test_totals_of_borders(self):
        for pattern in FEW:
            sums = reference.totals(pattern)
            for laying in reference.layings(pattern, "DL"):
                pieces = dark_pieces(pattern, laying) + light_pieces(pattern, laying)
                self.assertEqual(len(pieces), len(reference.loops(pattern, laying)) + 1)
                for piece in pieces:
                    total = 0
                    for loop in borders_of(pattern, laying, piece):
                        # Led so that corner e is in the piece for each end e along which it leaves.
                        ends = loop if reference.face_number(pattern, loop[0]) in piece else [pattern[e][0] for e in loop]
                        self.assertTrue(all(reference.face_number(pattern, end) in piece for end in ends))
                        total += sum(pattern[end][1] for end in ends)
                    self.assertEqual(total, sum(sums[face] for face in piece))

    def test_pieces_of_one_face(self):
        self.same((dark_pieces(THREE, "LL"), light_pieces(THREE, "LL")), (((0,), (2,)), ((1, 3),)))
        self.same((dark_pieces(LEAF, "D"), light_pieces(LEAF, "L")), (((0, 2),), ((1,),)))
        self.same((rings_in(TWO, "D", (1,)), rings_in(TWO, "L", (1,)), rings_in(LEAF, "L", (1,))), (1, 0, 1))
        self.same((borders_of(TWO, "L", (1,)), borders_of(pattern=TWO, laying="D", piece=(1,))), (((0, 2),), ((0,), (2,))))

    def test_no_pieces(self):
        for laying, bad in (("DD", ((0,), (2,), (2, 0), (0, 1), (0, 1, 2), (1, 3), (0, 2, 2), (3, 1), (4,), (-1,))),
                            ("LL", ((0, 2), (1,), (3,), (1, 3, 3), (0, 1, 2, 3))),
                            ("DL", ((0, 2, 1), (0, 3), (2,), (1, 2)))):
            for piece in (*bad, (), (True,), (False,), (False, 2), [0], [0, 2], 0, 2, None, "", "02", ((0, 2),), (GREAT,),
                          (0, GREAT), ("0",), (None,), (0.0, 2)):
                if piece in dark_pieces(THREE, laying) + light_pieces(THREE, laying) and type(piece[0]) is int:
                    continue
                self.not_usable("piece", rings_in, THREE, laying, piece)
                self.not_usable("piece", borders_of, THREE, laying, piece)

    def test_refusals(self):
        for function in (dark_pieces, light_pieces):
            self.refuses_in_order(function, ("pattern", "laying"), (THREE, "DL"), ((), NOT_PLAIN))
        for function in (rings_in, borders_of):
            self.refuses_in_order(function, ("pattern", "laying", "piece"), (THREE, "DD", (0, 2)),
                                  ((), NOT_PLAIN, ((0,), [0, 2], (False, 2), None)))
        self.not_usable("laying", dark_pieces, FOUR, "DXD")


if __name__ == "__main__":
    unittest.main()
