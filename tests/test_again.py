"""The same call twice gives the same answer, a new one, and changes no argument."""

import importlib
import unittest

import interface
from samples import FOUR, THREE, TWO, StrictCase

ENDS = ((1, 1), (0, 2), (3, 2), (2, 1))
LEFT = (-1, 1, -1, 1)
WEB = ((0, 2), (0,), ((0, 1, 0), (1, 1, 1)))
PRICES = ((1, 0), (5, 0), (2, 0))
STATE = (THREE, "DL", ((1, 2), (3, 4)), 6)
CALLS = {
    "is_integer": (1,), "is_number": (1,), "is_quotient": ((1, 2),), "is_row": ((1,),), "is_word": (3, (1, 2)),
    "quotient_of": (6, -4), "plus": ((1, 2), (1, 3)), "minus": ((1, 2), (1, 3)), "times": ((1, 2), (1, 3)),
    "over": ((1, 2), (1, 3)), "is_less": ((1, 2), (1, 3)), "row_of": ((1, 0),), "row_plus": ((1,), (1, 2)),
    "row_times": ((1, 1), (1, 2)), "row_at": ((1, 1), (1, 2)), "row_moved": ((1, 1), 3), "sign_changes": ((1, -1),),
    "crossing_of": (7,), "next_end": (7,), "end_before": (7,), "end_across": (7,), "partner_of": (THREE, 3),
    "shift_of": (THREE, 3), "lines_of": (THREE,), "lets_pattern": (THREE,), "is_pattern": (THREE,),
    "faces_of": (THREE,), "face_at": (THREE, 5), "total_of": (THREE, 1), "middle_of": (THREE,), "outside_of": (THREE,),
    "faces_round": (THREE, 0), "colours_of": (THREE,), "dark_corners": (THREE, 1), "light_corners": (THREE, 1),
    "strand_pattern": (3, (1, 2)), "renamed": (THREE, (1, 0)), "spun": (THREE, 0, 1), "moved_on": (THREE, 0, 1),
    "mirrored": (THREE,), "inside_out": (THREE,), "pattern_line": (THREE,), "read_pattern": ("1+1 0-1 3-1 2+1",),
    "drawn": (THREE, 3), "drawn_end": (THREE, 3, 2, 1), "end_told": (THREE, 3, 17), "is_modular": (3, ENDS),
    "lifted": (3, ENDS), "writing_from": (THREE, 0), "least_writing": (THREE,), "are_alike": (THREE, THREE),
    "alike_map": (THREE, THREE), "greatest_turning": (THREE,), "turnings_of": (THREE,), "turning_map": (THREE, 1),
    "sector_for": (THREE, 1), "smooth_word": (THREE, 0, "D"), "smoothed": (THREE, 0, "D"),
    "falls_round": (THREE, 0, "L"), "fallen": (THREE, 0, "L"), "can_put": (TWO, 1, 3), "put_in": (TWO, 1, 3),
    "petal_on": (TWO, 0, 1), "nested": (TWO, 2, THREE, 0), "taken_down": (FOUR,), "lets_down": (THREE, ((0, "D"),)),
    "built_up": (TWO, (("put", 1, 3), ("petal", 0, 0))), "single_patterns": (), "is_laying": (2, "DX"),
    "is_plain": (2, "DL"), "joined_end": (THREE, "DX", 5), "letter_for": (THREE, 0, 0, 1), "loops_of": (THREE, "LX"),
    "loop_at": (THREE, "LX", 5), "walk_total": (THREE, (0,)), "windings_of": (THREE, "LX"), "is_walk": (THREE, (0,)),
    "threads_of": (THREE, "LX", 3), "thread_row": ((2, 1, 0), 4), "round_threads": ((2, 1, 0), 4), "repeated": ("DX", 3),
    "turned_laying": (TWO, 3, "DLX", 1), "is_kept": (TWO, 3, "DDD", 3), "kept_order": (TWO, 3, "DDD"),
    "is_directions": (TWO, LEFT), "directed": (THREE, "LX"), "dark_left": (TWO,), "heights_of": (TWO, LEFT),
    "loop_directions": (THREE, "LX", 5), "nest_of": (THREE, "LD"), "meetings": (THREE, "LX"),
    "uncrossed": (THREE, "DX"), "x_count": ("DXX",), "dark_pieces": (THREE, "DD"), "light_pieces": (THREE, "DL"),
    "rings_in": (THREE, "DD", (0, 2)), "borders_of": (THREE, "DD", (0, 2)), "pen_rows": (TWO, "X", 2),
    "distances_of": (THREE,), "cut_of": (THREE,), "is_way": (THREE, (0, 4, 7)), "shortest_way": (THREE,),
    "ways_count": (THREE,), "way_total": (THREE, (0, 3, 7), (0, 2, 7, 5)), "lows_laying": (THREE,),
    "level_loops": (THREE, 2), "can_melt": (THREE, "LD", 0), "melted": (THREE, "LD", 0), "melted_down": (THREE, "LD", 1),
    "can_have": (THREE, (2, 1)), "least_x": ((3, 2, 2),), "laying_with": (THREE, (2, 1)), "can_lay": (THREE, 3, 2),
    "fewest_x": (THREE, 3, 2), "lay_threads": (THREE, 3, 2), "menu_of": (THREE, 3), "part_by": (12, 2),
    "is_times": (((1, 2), (3, 1)),), "can_times": (TWO, 3, ((2, 1),)), "times_x": (2, ((2, 2),)),
    "lay_times": (FOUR, 2, ((2, 2),)), "cut_paper": (THREE,), "lets_cut": (THREE, ("cut", (0, 4, 7), "LD")),
    "menu_paper": (THREE, 3, 2), "lets_menu": (THREE, 3, 2, ("laid", "XD")), "dark_web": (THREE,),
    "light_web": (THREE,), "is_web": (WEB,), "table_of": (WEB, (2, 3)), "determinant": ((((1, 2), (2, 1)),) * 2,),
    "web_value": (WEB, (2, 3)), "ring_row": (FOUR,), "ring_count": (FOUR, 2), "light_row": (FOUR,),
    "cut_by_row": ((0, 2, 1),), "loops_told": ((0, 2, 1),), "tree_count": (FOUR,), "is_tree": (TWO, "L"),
    "web_trees": (WEB,), "letter_rows": (FOUR, 1), "roots_above": ((0, 2, 1), (-5, 2)), "root_floors": ((2, 6, 1), 10),
    "is_rising": ((2, 6, 1),), "mean_loops": (FOUR,), "likely_loops": (FOUR,), "turn_row": (3,),
    "turned_value": ((-1, 2), 2), "row_turned": ((6, 5, 1), 2), "round_row": (THREE, 3), "round_count": (THREE, 3, 1),
    "one_count": (FOUR, 4), "one_counts": (FOUR, 4), "kept_count": (THREE, 6, 2, 1), "just_kept": (THREE, 6, 2, 1),
    "unlike_count": (THREE, 6, 1), "unlike_ones": (FOUR, 3), "row_modulo": ((6, 5, 1), 2, 11), "one_modulo": (FOUR, 4, 7),
    "square_told": (FOUR, 6), "five_counts": (THREE,), "heard_from": ((1, 5, 16, 45, 320),), "parts_at": (THREE, FOUR),
    "same_rounds": (THREE, FOUR), "is_manner": ("few",), "is_of": (FOUR, "few", "DDL"), "manner_count": (FOUR, "few"),
    "begins_count": (FOUR, "all", "D"), "layings_of": (FOUR, "all"), "rank_of": (FOUR, "all", "LDD"),
    "laying_at": (FOUR, "all", 1), "drawn_by": (FOUR, "all", 7), "is_prices": (3, PRICES),
    "price_of": (FOUR, PRICES, "DDL"), "cheapest_laying": (FOUR, "few", PRICES), "least_price": (FOUR, "few", PRICES),
    "is_cheapest": (FOUR, "few", PRICES, "DDL"), "exchanged": ("DL", 0, 1), "exchanges_of": (FOUR, "all", "DLD"),
    "better_exchange": (FOUR, "all", PRICES, "DDL"), "exchange_way": (FOUR, "few", "DDL", "LDD"),
    "price_span": (FOUR, "all", PRICES, "DLD", 1), "choice_paper": (FOUR, "all", PRICES, "DDL"),
    "lets_choice": (FOUR, "all", PRICES, "DDL", ("better", 1, 2)), "round_price": (FOUR, 4, "few", PRICES),
    "keeping_price": (FOUR, 4, "few", PRICES), "cheapest_row": (FOUR, PRICES), "round_cheapest": (FOUR, 2, PRICES),
    "drawn_cheapest": (FOUR, 2, "few", PRICES), "lets_state": (STATE,), "is_state": (STATE,), "start_state": (THREE,),
    "is_event": (("smooth", 1),), "is_log": ((STATE, (("smooth", 1),)),), "refusal_in": (STATE, ("smooth", 1)),
    "after_event": (STATE, ("smooth", 1)), "smooth_menu": (THREE,), "put_menu": (THREE,),
    "replayed": ((STATE, (("smooth", 1), ("draw", 2))),), "event_line": (("petal", 2, -1, "X"),),
    "read_event": ("petal 2 -1 X",), "state_line": (STATE,), "read_state": ("1+1 0-1 3-1 2+1\nX\n0,7\n5",),
    "report_of": (STATE,),
}
# What these return is no value by itself: a generator, and a bench.
TELLING = {"layings_of": tuple, "replayed": lambda bench: bench.log}


def is_plain_value(thing):
    """Whether thing is an integer, bool, string or None, or a tuple of such: nothing that could be changed later."""
    if type(thing) is tuple:
        return all(is_plain_value(part) for part in thing)
    return thing is None or type(thing) in (int, bool, str)


class AgainTest(StrictCase):
    def test_each_function(self):
        for module, functions in interface.FUNCTIONS.items():
            for name in functions:
                function = getattr(importlib.import_module(f"threadsround.{module}"), name)
                args = CALLS[name]
                kept = repr(args)
                told = TELLING.get(name, lambda value: value)
                first = told(function(*args))
                self.assertTrue(is_plain_value(first), name)
                self.same(told(function(*args)), first)
                self.assertEqual(repr(args), kept, name)
                named = dict(zip(functions[name].split(", "), args)) if args else {}
                self.same(told(function(**named)), first)


if __name__ == "__main__":
    unittest.main()
