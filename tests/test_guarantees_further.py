"""The guarantees (G9), its last sentence, to (G13), and what holds for events, on small patterns and their drawings."""

import random
import unittest
from itertools import product

import reference
import reference_bench
import reference_choices
import reference_loops
import reference_rows
from samples import FEW, FOUR, GROWN, LEAF, MANY, NAMED, ONES, THREE, THREES, TWO, TWOS, StrictCase
from test_alikes import disguised
from test_prices import drawn_prices
from test_roundcounts import small_drawings
from threadsround.alikes import are_alike
from threadsround.choicepapers import lets_choice
from threadsround.cutpapers import lets_cut
from threadsround.distances import cut_of
from threadsround.effects import after_event
from threadsround.errors import InvalidPaper
from threadsround.hearings import five_counts
from threadsround.menupapers import lets_menu
from threadsround.mirrors import inside_out, mirrored
from threadsround.moduli import one_modulo
from threadsround.onecounts import one_counts
from threadsround.orbits import just_kept, unlike_count, unlike_ones
from threadsround.ringrows import ring_row
from threadsround.roots import roots_above
from threadsround.roundcounts import round_count
from threadsround.roundprices import cheapest_row
from threadsround.squares import square_told
from threadsround.takings import lets_down
from threadsround.turnings import greatest_turning, sector_for, turnings_of

MANNERS = reference_choices.MANNERS
SMALL = [*MANY[::7], *GROWN[::6], TWO, THREE, FOUR, LEAF]


def accepted(checker, *args):
    """What the checker returns, or None if it refuses the paper."""
    try:
        return checker(*args)
    except InvalidPaper:
        return None


class CountsTest(StrictCase):
    def test_five_counts_tell_all(self):
        """(G9): alike five counts come with alike u_m for all m tried, and with no others."""
        by_five = {}
        for pattern in [*ONES, *TWOS[::5], *THREES, *MANY[::3], *GROWN]:
            self.assertLessEqual(reference.cut(pattern), 9)
            counts = one_counts(pattern, 14)
            self.same(by_five.setdefault(five_counts(pattern), counts), counts)
        self.assertEqual(len(set(by_five.values())), len(by_five))
        self.assertGreater(len(by_five), 20)

    def test_names_and_mirrors_change_no_counts(self):
        """(G12), its first sentence, and all that is told of the ring row and the first count alone."""
        for pattern in SMALL:
            told = self.told(pattern)
            for other in (disguised(pattern, 2), mirrored(pattern), inside_out(pattern), disguised(mirrored(pattern), 1)):
                self.same(self.told(other), told)

    def told(self, pattern):
        return (cut_of(pattern), ring_row(pattern), one_counts(pattern, 7), unlike_ones(pattern, 6), round_count(pattern, 5, 2),
                [unlike_count(pattern, 12, many) for many in (1, 2, 3)], [just_kept(pattern, 12, 3, many) for many in (1, 2)],
                square_told(pattern, 8), one_modulo(pattern, 10 ** 29, 10 ** 9 + 7), five_counts(pattern))

    def test_turnings_are_the_divisors_of_the_greatest(self):
        """(G12), its second sentence: a drawing of m is alike to another one exactly for these m."""
        for pattern in (TWO, THREE, LEAF, *TWOS[::40], *THREES[::25]):
            for sectors in (1, 2, 4, 6):
                whole = reference.drawing(pattern, sectors)
                greatest = greatest_turning(whole)
                self.assertEqual(greatest % sectors, 0)
                self.same(turnings_of(whole), tuple(m for m in range(1, greatest + 1) if greatest % m == 0))
                for m in turnings_of(whole):
                    self.same(are_alike(whole, reference.drawing(sector_for(whole, m), m)), True)
                # Alike maps from a pattern to itself are as many as (the drawing's) m or a multiple of it.
                self.assertEqual(len(reference.alike_maps(whole, whole)), greatest)


class ChoicesTest(StrictCase):
    def test_cheapest_exactly_if_no_exchange_is_cheaper(self):
        """(G10), its first sentence."""
        dice = random.Random(10)
        for pattern, manner in product(SMALL, MANNERS):
            prices = drawn_prices(dice, len(pattern) // 4)
            cheapest = reference_choices.cheapest(pattern, manner, prices)
            for laying in reference_choices.layings(pattern, manner)[:25]:
                better = [pair for pair in reference_choices.exchanges(pattern, manner, laying)
                          if prices[pair[0]][1] + prices[pair[1]][0] < prices[pair[0]][0] + prices[pair[1]][1]]
                self.assertEqual(laying in cheapest, better == [])

    def test_as_many_exchanges_as_crossings_that_change(self):
        """(G10), its second sentence, by going out from a laying step after step."""
        for pattern, manner in product([*SMALL[::2], FOUR], MANNERS):
            layings = reference_choices.layings(pattern, manner)
            far, ring = {layings[0]: 0}, [layings[0]]
            while ring:
                here = ring.pop(0)
                for out, into in reference_choices.exchanges(pattern, manner, here):
                    there = reference_choices.with_letter(reference_choices.with_letter(here, out, "L"), into, "D")
                    if there not in far:
                        far[there] = far[here] + 1
                        ring.append(there)
            wanted = {other: sum(one == "D" and two == "L" for one, two in zip(layings[0], other)) for other in layings}
            self.assertEqual(far, wanted)

    def test_going_through_by_rising_difference(self):
        """(G10), its last sentence."""
        dice = random.Random(11)
        for pattern, manner in product(SMALL, MANNERS):
            prices = drawn_prices(dice, len(pattern) // 4)
            layings = reference_choices.layings(pattern, manner)
            dark = []
            for crossing in sorted(range(len(prices)), key=lambda c: prices[c][0] - prices[c][1]):
                if any(all(laying[c] == "D" for c in [*dark, crossing]) for laying in layings):
                    dark.append(crossing)
            laying = "".join("D" if c in dark else "L" for c in range(len(prices)))
            self.assertIn(laying, reference_choices.cheapest(pattern, manner, prices))

    def test_prices_of_drawings(self):
        """(G11)."""
        dice = random.Random(12)
        for pattern, sectors, whole in small_drawings(8, SMALL):
            prices = drawn_prices(dice, len(pattern) // 4)
            least = reference_choices.least(pattern, "all", prices)
            for manner in MANNERS:
                wanted = reference_choices.least(pattern, manner, prices) + (sectors - 1) * least
                self.assertEqual(reference_choices.least(whole, manner, prices * sectors), wanted)
            row = reference_choices.cheapest_row(pattern, prices)
            self.same(reference_rows.turned(row, sectors), reference_choices.cheapest_row(whole, prices * sectors))
            self.same(cheapest_row(pattern, prices), row)
            self.assertEqual([roots_above(row, (-10 ** 9, 1)), roots_above(row, (0, 1))], [len(row) - 1, 0])


class PapersTest(StrictCase):
    """(G13): papers of all kinds that could be shown, for small patterns; what is accepted is true."""

    def test_cuts_and_menus(self):
        for pattern in (*NAMED, *FEW[30:60:6]):
            cut = reference.cut(pattern)
            layings = reference.layings(pattern)
            ways = reference_loops.ways(pattern, cut) + reference_loops.ways(pattern, cut + 2)[::9]
            cuts = [accepted(lets_cut, pattern, ("cut", way, laying)) for way in ways for laying in layings]
            self.assertEqual({told for told in cuts if told is not None}, {cut})
            for sectors, many in product((0, 1, 2, 3), range(1, cut + 3)):
                made = [reference_loops.threads(windings, sectors or 1) for _, windings in reference_loops.all_windings(pattern)]
                if sectors == 0:
                    made = [{w: w * windings.count(w) for w in windings} | ({0: 1} if 0 in windings else {})
                            for _, windings in reference_loops.all_windings(pattern)]
                can = any(sum(found.values()) == many and not found.get(0) for found in made)
                papers = [("laid", laying) for laying in layings] + [(word, way) for word in ("many", "unlike") for way in ways]
                told = {accepted(lets_menu, pattern, sectors, many, paper) for paper in papers}
                self.assertEqual(told - {None}, {can})

    def test_choices(self):
        dice = random.Random(13)
        for pattern, manner in product([*NAMED, *GROWN[:3]], MANNERS):
            prices = drawn_prices(dice, len(pattern) // 4)
            places = range(len(pattern) // 4)
            cheapest = reference_choices.cheapest(pattern, manner, prices)
            papers = [("cheapest",)] + [("better", out, into) for out in places for into in places]
            for laying in reference_choices.layings(pattern, manner)[:9]:
                told = {accepted(lets_choice, pattern, manner, prices, laying, paper) for paper in papers}
                self.assertEqual(told - {None}, {laying in cheapest})

    def test_takings_down(self):
        for pattern in (THREE, FOUR, *THREES[::20]):
            steps = list(product(range(len(pattern) // 4), "DL"))
            for paper in product(steps, repeat=len(pattern) // 4 - 1):
                last = accepted(lets_down, pattern, paper)
                now = pattern
                for crossing, letter in paper:
                    if 4 * crossing >= len(now) or reference.smooth_word(now, crossing, letter) != "sound":
                        now = None
                        break
                    left = [c for c in range(len(now) // 4) if c != crossing]
                    now = reference.numbered(reference.contracted(now, crossing, letter)[0], left)
                self.same(last, now)


class EventsTest(StrictCase):
    """The consequences told for events."""

    def windings(self, state):
        return list(reference.windings(state[0], state[1]))

    def test_each_event(self):
        dice = random.Random(14)
        counts = {}
        for state in reference_bench.bench_states(dice, 25):
            for _ in range(6):
                event = reference_bench.some_event(dice, state)
                if reference_bench.refusal(state, event) is None:
                    counts[event[0]] = counts.get(event[0], 0) + 1
                    self.check(state, event, after_event(state, event))
        self.assertGreater(min(counts[word] for word in ("smooth", "put", "petal", "draw")), 25)

    def check(self, state, event, after):
        before, now = self.windings(state), self.windings(after)
        grown = reference.cut(after[0]) - reference.cut(state[0])
        if event[0] == "smooth":
            self.assertEqual(now, before)
            self.assertIn(grown, (0, -2))
        if event[0] == "put":
            self.assertIn(grown, (0, 2))
            if event[3] == reference.face_letter(state[0], event[1]):
                self.assertEqual(now, before)
        if event[0] == "petal":
            self.check_petal(state, event, grown, before, now)
        if event[0] == "draw":
            self.check_draw(state, event[1], after, grown)

    def check_petal(self, state, event, grown, before, now):
        letter = reference.face_letter(state[0], event[1])
        self.assertEqual(grown, int(event[2] != 0))
        if event[3] == letter and event[2] in (0, 1):
            self.assertEqual(now, sorted([*before, event[2]], reverse=True))
        elif event[3] not in (letter, "X") and event[2] == 0:
            self.assertEqual(now, before)

    def check_draw(self, state, many, after, grown):
        self.assertEqual(grown, 0)
        one, other = reference_bench.report(state), reference_bench.report(after)
        if state[3]:
            self.assertEqual(other[2], one[2])
        if one[4] is not None:
            self.assertEqual(other[4], many * one[4])
        self.assertEqual(other[3], reference_rows.turned(one[3], many))


if __name__ == "__main__":
    unittest.main()
