import unittest
from itertools import product

from samples import FOUR, GREAT, LEAF, NO_INTEGERS, THREE, TWO, StrictCase
from threadsround.keeps import is_kept, kept_order, repeated, turned_laying

NO_STRINGS_OF_LETTERS = (True, None, 0, "", "A", "DLx", " D", "D\n", ("D",), ["D"], (), "D" * 9 + "-")


def moved_letters(crossings, sectors, laying, by):
    """The laying, letter by letter, as [36] tells it."""
    told = ""
    for i in range(sectors):
        for c in range(crossings):
            told += laying[(i - by) % sectors * crossings + c]
    return told


class KeepsTest(StrictCase):
    def test_examples(self):
        self.same(turned_laying(TWO, 3, "DLX", 1), "XDL")

    def test_repeated(self):
        for laying in ("D", "L", "X", "DLX", "XXDL"):
            for sectors in (1, 2, 5, 36):
                self.same(repeated(laying, sectors), "".join(laying for _ in range(sectors)))
        self.same(repeated(laying="DL", sectors=2), "DLDL")

    def test_turned(self):
        for pattern, sectors, laying in ((TWO, 3, "DLX"), (TWO, 1, "X"), (THREE, 4, "DLXXLDDD"), (FOUR, 2, "DLXXXD"),
                                         (LEAF, 6, "DLXDDL"), (FOUR, 12, "DLX" * 11 + "DDD")):
            for by in (0, 1, 2, 3, sectors, sectors + 1, 35, 10 ** 29 + 1, GREAT):
                wanted = moved_letters(len(pattern) // 4, sectors, laying, by)
                self.same(turned_laying(pattern, sectors, laying, by), wanted)
            self.same(turned_laying(pattern=pattern, sectors=sectors, laying=laying, by=0), laying)

    def test_kept(self):
        for pattern, sectors in ((TWO, 1), (TWO, 2), (TWO, 4), (TWO, 6), (THREE, 2), (THREE, 3), (FOUR, 2)):
            crossings = len(pattern) // 4
            for letters in product("DLX", repeat=crossings * sectors):
                laying = "".join(letters)
                kept = []
                for order in [d for d in range(1, sectors + 1) if sectors % d == 0]:
                    wanted = moved_letters(crossings, sectors, laying, sectors // order) == laying
                    self.same(is_kept(pattern, sectors, laying, order), wanted)
                    self.assertEqual(wanted, laying == laying[:len(laying) // order] * order)
                    kept += [order] * wanted
                self.same(kept_order(pattern, sectors, laying), max(kept))
                self.assertEqual(kept, [d for d in range(1, max(kept) + 1) if max(kept) % d == 0])
        self.same((kept_order(THREE, 12, "DL" * 12), kept_order(THREE, 12, "DLDD" * 6)), (12, 6))
        self.same((is_kept(TWO, 4, "DLDL", 2), is_kept(TWO, 4, "DLDL", 4)), (True, False))

    def test_refusals(self):
        no_counts = (*NO_INTEGERS, 0, -1, -GREAT)
        no_layings = (True, None, 0, "", "DL", "DLDLDLDL", "DLDLDY", ("DLDLDL",), list("DLDLDL"), "DLDLD\n")
        self.refuses_in_order(repeated, ("laying", "sectors"), ("DLX", 2), (NO_STRINGS_OF_LETTERS, no_counts))
        names = ("pattern", "sectors", "laying")
        self.refuses_in_order(turned_laying, (*names, "by"), (THREE, 3, "DLXLDL", 2),
                              ((), no_counts, no_layings, (*NO_INTEGERS, -1, -GREAT)))
        self.refuses_in_order(is_kept, (*names, "order"), (THREE, 3, "DLXLDL", 3),
                              ((), no_counts, no_layings, (*no_counts, 2, 4, 6, GREAT)))
        self.refuses_in_order(kept_order, names, (THREE, 3, "DLXLDL"), ((), no_counts, no_layings))
        self.not_usable("laying", is_kept, THREE, 2, "DL", 1)
        self.not_usable("laying", kept_order, THREE, 10 ** 30, "DL")


if __name__ == "__main__":
    unittest.main()
