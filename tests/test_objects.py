"""Objects of all classes, worked on by turns: each stays what it is, whatever is done to the others."""

import unittest

import interface
from samples import FOUR, LEAF, THREE, TWO, StrictCase
from threadsround.bench import Bench
from threadsround.buildclasses import Building
from threadsround.choiceclasses import Choice
from threadsround.desk import Desk
from threadsround.layingclasses import Laying
from threadsround.menuclasses import Menu
from threadsround.patternclasses import Pattern
from threadsround.ringclasses import Rings
from threadsround.roundclasses import Rounds
from threadsround.states import start_state

TELLS = {
    Pattern: lambda thing: (thing.told, thing.faces_told, thing.as_line, list(thing)),
    Building: lambda thing: (thing.first_told, thing.now_told, thing.deeds, len(thing)),
    Laying: lambda thing: (thing.letters_told, thing.is_plain_now, list(thing), thing.total_windings()),
    Menu: lambda thing: (thing.cut_told, thing.sectors_told, list(thing)),
    Rings: lambda thing: (thing.told_row, thing.cut_told, thing.trees_told, thing.mean()),
    Rounds: lambda thing: (thing.five(), thing.hears(), thing.at_sectors(3)),
    Choice: lambda thing: (thing.priced, thing.best("all"), thing.least("few"), thing.ways_to("one")),
    Bench: lambda thing: (thing.now, thing.log, thing.tally, list(thing), thing.windings_now()),
    Desk: lambda thing: (thing.now, thing.log),
}


def made(pattern):
    many = len(pattern) // 4
    return [Pattern(pattern), Building(pattern), Laying(pattern, "D" * many), Menu(pattern, 3), Rings(pattern), Rounds(pattern),
            Choice(pattern, ((1, 2),) * many), Bench(start_state(pattern)), Desk(pattern)]


def worked_on(thing):
    """Do to an object whatever may change something, or makes another object."""
    works = {
        Pattern: lambda: (thing.spin(0), thing.move(0, by=5), thing.mirror(), thing.turn_in()),
        Building: lambda: thing.petal(0),
        Laying: lambda: (thing ^ (0, "X"), thing.untwisted(), thing.pens(sectors=2)),
        Menu: lambda: (thing.with_sectors(0), thing.lay(1), thing.why(2)),
        Rings: lambda: (thing.by_letters(0), thing.share(1), thing.rises()),
        Rounds: lambda: (next(thing.through(begin=2)), thing.unlike_at(2, 1)),
        Choice: lambda: (thing.repriced(0, (9, 9)), thing.for_all(4, "few")),
        Bench: lambda: (thing.petal(0, 0, "X"), thing.set_sectors(4)),
        Desk: lambda: (thing.hear("petal 0 0 X"), list(thing.hear_all("sectors 4", "threads"))),
    }
    works[type(thing)]()


class ObjectsTest(StrictCase):
    def told(self, things):
        return [repr(TELLS[type(thing)](thing)) for thing in things]

    def test_all_classes_are_here(self):
        self.assertEqual(sorted(kind.__name__ for kind in TELLS), sorted(name for told in interface.CLASSES.values() for name in told))

    def test_by_turns(self):
        sets = [made(pattern) for pattern in (TWO, THREE, FOUR, LEAF, THREE)]
        changing = (Building, Bench, Desk)
        for turn in range(3):
            for k, things in enumerate(sets):
                for thing in things:
                    before = [self.told(others) for others in sets]
                    worked_on(thing)
                    after = [self.told(others) for others in sets]
                    place = things.index(thing)
                    # Only this very object may tell something else now.
                    changed = [(j, i) for j, others in enumerate(before) for i, one in enumerate(others) if after[j][i] != one]
                    self.assertEqual(changed, [(k, place)] if type(thing) in changing else [])
        # What was done to both objects of THREE was the same.
        self.assertEqual(self.told(sets[1]), self.told(sets[4]))

    def test_the_same_call_twice(self):
        state = (THREE, "DL", ((1, 2), (3, 4)), 6)
        choice, rounds, bench = Choice(THREE, state[2]), Rounds(THREE), Bench(state)
        calls = ((choice.best, "all"), (choice.least, "few"), (choice.ways_to, "one"), (choice.better, "all", "LD"),
                 (choice.lead, "all", "LD", "DL"), (choice.for_all, 4, "few"), (choice.keeping, 4, "one"),
                 (lambda: choice.span("all", 0, laying=choice.best("all")),), (lambda: choice.repriced(0, (7, 7)).priced,),
                 (rounds.at_sectors, 4), (rounds.trees_at, 4), (rounds.unlike_at, 6, 1), (rounds.five,), (rounds.hears,),
                 (rounds.parts_from, Rounds(FOUR)), (lambda: next(rounds.through(begin=3)),), (bench.tried, ("smooth", 1)),
                 (bench.refusal_of, ("smooth", 0)), (bench.cut_now,), (bench.windings_now,), (bench.threads_now,), (bench.row_now,),
                 (bench.price_now,))
        for function, *args in calls:
            self.same(function(*args), function(*args))
        self.same((bench.log, choice.priced), ((state, ()), state[2]))

    def test_objects_of_one_kind_equal_none_of_another(self):
        for one in made(THREE):
            for other in made(THREE):
                if type(one) is not type(other):
                    self.same((one == other, one != other), (False, True))
                elif type(one) is not Desk:
                    self.same((one == other, one != other), (True, False))


if __name__ == "__main__":
    unittest.main()
