import random
import unittest

import reference
import reference_choices
import reference_rows
from samples import DRAWN, FAR, FOUR, GREAT, GROWN, LEAF, MANY, NO_INTEGERS, ODD, ONES, THREE, TWO, TWOS, StrictCase
from test_ringrows import STRANDS
from threadsround.hearings import five_counts, heard_from
from threadsround.onecounts import one_count


def made_rows(dice, many):
    """Rows as a cut of at most nine may have them by their length and signs, and first counts."""
    for _ in range(many):
        great = dice.choice((2, 5, 50, 10 ** 6))
        row = tuple(dice.randrange(1, great + 1) for _ in range(dice.randrange(1, 6)))
        yield "odd", row, row[0]
        if len(row) < 5:
            yield "even", (0,) + row, dice.randrange(1, great + 1)


class HearingsTest(StrictCase):
    def test_examples(self):
        self.same((five_counts(THREE), heard_from((1, 5, 16, 45, 320))), ((1, 5, 16, 45, 320), ("odd", (1, 1), 1)))
        self.same((heard_from((1, 12, 75, 384, 8100)), heard_from((1, 5, 16, 45, 321))), (("even", (0, 2, 1), 1), None))

    def test_five_counts(self):
        for pattern in [*MANY[::3], *ONES, *STRANDS]:
            self.same(five_counts(pattern), tuple(one_count(pattern, sectors) for sectors in (1, 2, 3, 4, 6)))

    def test_heard_from_patterns(self):
        cuts = set()
        for pattern in [*MANY, *ONES, *TWOS[::11], *STRANDS, FOUR, LEAF, TWO, *DRAWN, *FAR, *GROWN]:
            cut = reference.cut(pattern)
            row, first = reference_rows.ring_numbers(pattern), reference_rows.trees(pattern)
            cuts.add(cut)
            self.same(heard_from(five_counts(pattern)), ("odd" if cut % 2 else "even", row, first))
        self.assertEqual(cuts, {1, 2, 3, 4, 5, 6, 7, 8})

    def test_cut_nine(self):
        import reference_loops
        pattern = reference_loops.strands(9, (1, 3, 5, 7, 2, 4, 6, 8))
        row = reference_rows.ring_numbers(pattern)
        self.same(heard_from(five_counts(pattern)), ("odd", row, row[0]))
        self.assertEqual(len(row), 5)

    def test_made_rows(self):
        dice = random.Random(70)
        for word, row, first in made_rows(dice, 150):
            counts = reference_choices.five(row, first)
            self.same(heard_from(counts), (word, row, first))
            self.same(reference_choices.heard(counts), (word, row, first))
            for place in range(5):
                for change in (-1, 1, counts[place]):
                    near = list(counts)
                    near[place] += change
                    if near[place] > 0:
                        self.same(heard_from(tuple(near)), reference_choices.heard(near))
                if counts[place] > 10 and place:
                    near = list(counts)
                    near[place] += 1
                    self.same(heard_from(tuple(near)), None)

    def test_rows_with_noughts_and_numbers_below(self):
        for row in ((1, 0, 1), (5, -1, 1), (2, 0, 0, 0, 7), (9, 0, 0, 1), (1, 1, 1, 1, 1, 1), (4, 1, 0, 3), (3, 3, 3, -1, 1)):
            counts = reference_choices.five(row, row[0])
            if all(count > 0 for count in counts):
                self.same(heard_from(counts), None)
            counts = reference_choices.five((0,) + row, 2)
            if all(count > 0 for count in counts):
                self.same(heard_from(counts), None)
        # 1, 1, 1, 1, 1 times y to the power of 2 and more are no odd row, as an odd one begins above 0.
        self.same(heard_from(reference_choices.five((0, 3), 7)), ("even", (0, 3), 7))

    def test_small_counts(self):
        dice = random.Random(71)
        self.same(heard_from((1, 1, 1, 1, 1)), ("odd", (1,), 1))
        self.same(heard_from((7, 7, 7, 7, 7)), ("odd", (7,), 7) if reference_choices.five((7,), 7) == (7,) * 5 else None)
        self.same(heard_from(counts=(1, 2, 3, 4, 6)), ("even", (0, 1), 1))
        for _ in range(3000):
            counts = tuple(dice.choice((1, 2, 3, 4, 5, 8, 12, 16, 25, 27, 48, 75, 243)) for _ in range(5))
            self.same(heard_from(counts), reference_choices.heard(counts))
        for _ in range(300):
            counts = tuple(dice.randrange(1, GREAT) for _ in range(5))
            self.same(heard_from(counts), reference_choices.heard(counts))

    def test_refusals(self):
        good = (1, 5, 16, 45, 320)
        bad = [*ODD, good[:4], (*good, 1), list(good), "12345", (good,)]
        bad += [good[:k] + (number,) + good[k + 1:] for k in range(5) for number in (*NO_INTEGERS, 0, -1, -GREAT)]
        for thing in bad:
            self.not_usable("counts", heard_from, thing)
            self.not_usable("counts", heard_from, counts=thing)


if __name__ == "__main__":
    unittest.main()
