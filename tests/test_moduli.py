import unittest
from math import gcd

import reference_rows
from samples import FOUR, GREAT, LEAF, MANY, NO_INTEGERS, THREE, TWO, StrictCase
from test_ringrows import STRANDS
from test_roundcounts import NO_COUNTS
from test_rowturning import ROWS
from threadsround.moduli import one_modulo, row_modulo
from threadsround.onecounts import one_count
from threadsround.rowturning import row_turned

MODULI = (2, 3, 4, 6, 7, 12, 35, 97, 10 ** 9 + 7, 10 ** 29)


class ModuliTest(StrictCase):
    def test_examples(self):
        self.same((row_modulo((1, 1), 3, 7), row_modulo((6, 5, 1), 2, 11), row_modulo((), 2, 9)), ((2, 1), (10, 0, 1), ()))
        self.same((one_modulo(FOUR, 4, 7), one_modulo(THREE, 1000000000000000000003, 7)), (6, 2))
        self.not_usable("modulus", one_modulo, FOUR, 4, 6)
        self.same([one_modulo(THREE, m, 7) for m in range(1, 25)], [1, 5, 2, 3, 2, 5, 1, 0] * 3)

    def test_beside_row_turned(self):
        noughts = 0
        for row in ROWS:
            for sectors in (1, 2, 3, 4, 5, 6, 7, 12, 13, 36):
                turned = row_turned(row, sectors)
                for modulus in MODULI:
                    if gcd(row[-1], modulus) == 1:
                        got = row_modulo(row, sectors, modulus)
                        self.same(got, tuple(number % modulus for number in turned))
                        noughts += 0 in got[1:]
                    else:
                        self.not_usable("modulus", row_modulo, row, sectors, modulus)
        self.assertGreater(noughts, 50)

    def test_short_rows(self):
        for modulus in MODULI:
            for sectors in (1, 5, 36, GREAT):
                self.same(row_modulo((), sectors, modulus), ())
                self.same(row_modulo((-1,), sectors, modulus), ((-1) ** (sectors % 2) % modulus,))
                self.same(row_modulo((1,), sectors, modulus), (1,))
        self.same(row_modulo((3,), 10 ** 29 + 1, 10), (3,))
        self.same(row_modulo(modulus=7, sectors=10 ** 29, row=(5,)), (pow(5, 10 ** 29, 7),))

    def test_what_comes_again_and_again(self):
        tried = 0
        for row in ((1, 1), (6, 5, 1), (1, 0, 1), (4, -4, 1), (0, 2, 1), (-1, 3), (1, 21, 70, 1)):
            exact = [row_turned(row, m) for m in range(1, 121)]
            for modulus in (2, 3, 5, 7, 9):
                seen = [tuple(number % modulus for number in turned) for turned in exact]
                periods = [p for p in range(1, 61) if seen[:-p] == seen[p:]]
                if gcd(row[-1], modulus) == 1 and periods:
                    tried += 1
                    for sectors in (10 ** 29 + 7, 10 ** 30 - 1, 2 ** 99, 3 ** 60, 131, 1000):
                        self.same(row_modulo(row, sectors, modulus), seen[(sectors - 1) % periods[0]])
        self.assertGreater(tried, 15)

    def test_great_sectors_one_after_the_other(self):
        row = (3, -2, 5, 1)
        for modulus in (2, 101, 10 ** 20):
            once = row_modulo(row, 10 ** 15 + 1, modulus)
            self.same(row_modulo(once, 10 ** 14 + 3, modulus), row_modulo(row, (10 ** 15 + 1) * (10 ** 14 + 3), modulus))

    def test_long_numbers(self):
        row = tuple((-1) ** k * (10 ** 999 + 3 ** k) for k in range(7)) + (1,)
        for modulus in (7, 10 ** 29 + 3):
            self.same(row_modulo(row, 3, modulus), tuple(number % modulus for number in row_turned(row, 3)))

    def test_trees(self):
        even = 0
        for pattern in [*MANY[::5], *STRANDS, TWO, THREE, FOUR, LEAF]:
            row = reference_rows.ring_numbers(pattern)
            even += row[0] == 0
            for modulus in (2, 3, 4, 7, 30, 10 ** 29 + 3):
                good = gcd(row[-1], modulus) == 1 and (row[0] != 0 or gcd(row[1], modulus) == 1)
                for sectors in (1, 2, 3, 4, 5, 12, 25):
                    if good:
                        self.same(one_modulo(pattern, sectors, modulus), one_count(pattern, sectors) % modulus)
                    else:
                        self.not_usable("modulus", one_modulo, pattern, sectors, modulus)
        self.assertGreater(even, 5)
        self.same(one_modulo(TWO, 10 ** 29 + 5, 1000), 5)
        # Twice each: u_m of FOUR modulo 5 and 7, as often as these come again.
        for modulus in (5, 7, 11):
            seen = [one_count(FOUR, m) % modulus for m in range(1, 361)]
            period = next(p for p in range(1, 200) if seen[:-p] == seen[p:])
            for sectors in (10 ** 29 + 1, 10 ** 30 - 1, 7 ** 33):
                self.same(one_modulo(FOUR, sectors, modulus), seen[(sectors - 1) % period])

    def test_refusals(self):
        no_moduli = (*NO_INTEGERS, 0, 1, -1, -7, 3, 6, 9)
        self.refuses_in_order(row_modulo, ("row", "sectors", "modulus"), ((1, 3), 2, 7), ((), NO_COUNTS, no_moduli))
        for bad in (*NO_INTEGERS, 0, 1, -1, -2, -GREAT):
            self.not_usable("modulus", row_modulo, (), 2, bad)
            self.not_usable("modulus", one_modulo, THREE, 2, bad)
            self.not_usable("modulus", row_modulo, (1,), 2, bad)
        # 2 is the ring row's number 1 where the cut is even, and is not asked about where it is odd.
        self.refuses_in_order(one_modulo, ("pattern", "sectors", "modulus"), (FOUR, 2, 9), ((), NO_COUNTS, (2, 4, 1, 0, True)))
        self.refuses_in_order(one_modulo, ("pattern", "sectors", "modulus"), (THREE, 2, 9), ((), NO_COUNTS, (1, 0, True)))
        self.not_usable("modulus", row_modulo, (1, 1, -2), 2, 4)
        self.same(row_modulo((2, 4, 1), 1, 2), (0, 0, 1))


if __name__ == "__main__":
    unittest.main()
