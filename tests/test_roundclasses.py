import unittest
from itertools import islice

import reference
from samples import FAR, FOUR, GREAT, GROWN, LEAF, MANY, NO_INTEGERS, ODD, THREE, TWO, StrictCase
from test_alikes import NO_PATTERNS
from test_ringrows import STRANDS
from test_roundcounts import NO_COUNTS
from threadsround.hearings import five_counts, heard_from
from threadsround.onecounts import one_count, one_counts
from threadsround.orbits import unlike_count
from threadsround.partings import parts_at, same_rounds
from threadsround.patternclasses import Pattern
from threadsround.ringclasses import Rings
from threadsround.roundclasses import Rounds
from threadsround.roundcounts import round_row

PATTERNS = [*MANY[::9], *STRANDS, *GROWN[::7], TWO, THREE, FOUR, LEAF]


class RoundsTest(StrictCase):
    def test_examples(self):
        rounds = Rounds(THREE)
        self.same((rounds.at_sectors(2), rounds.trees_at(4), rounds.unlike_at(6, 1), rounds.parts_from(Rounds(FOUR))),
                  ((5, 1), 45, 58, 2))

    def test_each_method(self):
        for pattern in PATTERNS:
            rounds = Rounds(pattern)
            for many in (1, 2, 3, 12, 36):
                self.same(rounds.at_sectors(many), round_row(pattern, many))
                self.same(rounds.at_sectors(many=many), round_row(pattern, many))
                self.same(rounds.trees_at(many), one_count(pattern, many))
                self.same(rounds.trees_at(many=many), one_count(pattern, many))
                for loops in (1, 2, 3):
                    self.same(rounds.unlike_at(many, loops), unlike_count(pattern, many, loops))
            self.same(rounds.unlike_at(many=1, sectors=6), unlike_count(pattern, 6, 1))
            self.same((rounds.five(), rounds.hears()), (five_counts(pattern), heard_from(five_counts(pattern))))
            for other in (TWO, THREE, FOUR, LEAF, pattern):
                self.same(rounds.parts_from(Rounds(other)), parts_at(pattern, other))
                self.same(rounds.parts_from(other=Rounds(other)), parts_at(pattern, other))

    def test_through(self):
        for pattern in (THREE, FOUR, LEAF, STRANDS[0]):
            rounds = Rounds(pattern)
            counts = one_counts(pattern, 36)
            first = rounds.through()
            self.same(list(islice(first, 10)), list(counts[:10]))
            # A second one begins anew, while the first one goes on.
            self.same(list(islice(rounds.through(), 4)), list(counts[:4]))
            self.same(next(first), counts[10])
            later = rounds.through(begin=30)
            self.same([next(later), next(first), next(later)], [counts[29], counts[11], counts[30]])
        for bad in NO_COUNTS:
            refused = Rounds(FOUR).through(begin=bad)
            self.not_usable("begin", lambda generator: next(generator), refused)
        self.assertRaises(TypeError, lambda: Rounds(FOUR).through(3))

    def test_equality(self):
        for pattern in PATTERNS:
            for other in (TWO, THREE, FOUR, LEAF, pattern, FAR[1]):
                alike = same_rounds(pattern, other)
                self.same((Rounds(pattern) == Rounds(other), Rounds(pattern) != Rounds(other)), (alike, not alike))
        self.same((Rounds(THREE) == Rounds(FAR[0]), Rounds(LEAF) == Rounds(reference.drawing(LEAF, 3))), (True, True))
        for thing in (*ODD, THREE, five_counts(THREE), Rings(THREE), Pattern(THREE)):
            self.same((Rounds(THREE) == thing, thing == Rounds(THREE)), (False, False))

    def test_refusals(self):
        for bad in (*NO_PATTERNS, Pattern(FOUR), Rounds(FOUR)):
            self.not_usable("pattern", Rounds, bad)
            self.not_usable("pattern", Rounds, pattern=bad)
        rounds = Rounds(FOUR)
        for bad in NO_COUNTS:
            self.not_usable("many", rounds.at_sectors, bad)
            self.not_usable("many", rounds.at_sectors, many=bad)
            self.not_usable("many", rounds.trees_at, bad)
            self.not_usable("many", rounds.trees_at, many=bad)
            self.not_usable("sectors", rounds.unlike_at, bad, None)
            self.not_usable("sectors", rounds.unlike_at, many=None, sectors=bad)
            self.not_usable("many", rounds.unlike_at, 2, bad)
            self.not_usable("many", rounds.unlike_at, many=bad, sectors=2)
        for bad in (*ODD, *NO_INTEGERS, FOUR, Pattern(FOUR), Rings(FOUR), GREAT):
            self.not_usable("other", rounds.parts_from, bad)
            self.not_usable("other", rounds.parts_from, other=bad)

    def test_it_stays_as_it_was(self):
        rounds, other = Rounds(pattern=FOUR), Rounds(THREE)
        before = (rounds.five(), rounds.hears())
        rounds.unlike_at(12, 2)
        next(rounds.through(begin=3))
        rounds.parts_from(other)
        self.same((rounds.five(), rounds.hears()), before)
        self.same((rounds == Rounds(FOUR), other == Rounds(THREE), rounds == other), (True, True, False))


if __name__ == "__main__":
    unittest.main()
