"""The names, files and parameters that the interface lists."""

FUNCTIONS = {
    "kinds": {"is_integer": "thing", "is_number": "thing", "is_quotient": "thing", "is_row": "thing",
              "is_word": "width, thing"},
    "quotients": {"quotient_of": "top, bottom", "plus": "one, other", "minus": "one, other", "times": "one, other",
                  "over": "one, other", "is_less": "one, other"},
    "rows": {"row_of": "numbers", "row_plus": "row, other", "row_times": "row, other", "row_at": "row, value",
             "row_moved": "row, by", "sign_changes": "row"},
    "ends": {"crossing_of": "end", "next_end": "end", "end_before": "end", "end_across": "end",
             "partner_of": "pattern, end", "shift_of": "pattern, end", "lines_of": "pattern"},
    "patternchecker": {"lets_pattern": "thing", "is_pattern": "thing"},
    "faces": {"faces_of": "pattern", "face_at": "pattern, corner", "total_of": "pattern, face",
              "middle_of": "pattern", "outside_of": "pattern", "faces_round": "pattern, crossing"},
    "colours": {"colours_of": "pattern", "dark_corners": "pattern, crossing", "light_corners": "pattern, crossing"},
    "strands": {"strand_pattern": "width, word"},
    "namings": {"renamed": "pattern, order", "spun": "pattern, crossing, quarters",
                "moved_on": "pattern, crossing, by"},
    "mirrors": {"mirrored": "pattern", "inside_out": "pattern"},
    "patterntexts": {"pattern_line": "pattern", "read_pattern": "text"},
    "drawings": {"drawn": "pattern, sectors", "drawn_end": "pattern, sectors, sector, end",
                 "end_told": "pattern, sectors, end"},
    "liftings": {"is_modular": "sectors, thing", "lifted": "sectors, ends"},
    "alikes": {"writing_from": "pattern, corner", "least_writing": "pattern", "are_alike": "pattern, other",
               "alike_map": "pattern, other"},
    "turnings": {"greatest_turning": "pattern", "turnings_of": "pattern", "turning_map": "pattern, sectors",
                 "sector_for": "pattern, sectors"},
    "smoothings": {"smooth_word": "pattern, crossing, letter", "smoothed": "pattern, crossing, letter"},
    "fallings": {"falls_round": "pattern, crossing, letter", "fallen": "pattern, crossing, letter"},
    "puttings": {"can_put": "pattern, corner, other", "put_in": "pattern, corner, other"},
    "petals": {"petal_on": "pattern, end, shift"},
    "nestings": {"nested": "pattern, corner, other, place"},
    "takings": {"taken_down": "pattern", "lets_down": "pattern, thing", "built_up": "pattern, steps",
                "single_patterns": ""},
    "layingkinds": {"is_laying": "size, thing", "is_plain": "size, thing", "joined_end": "pattern, laying, end",
                    "letter_for": "pattern, crossing, one, other"},
    "loops": {"loops_of": "pattern, laying", "loop_at": "pattern, laying, end", "walk_total": "pattern, walk",
              "windings_of": "pattern, laying", "is_walk": "pattern, thing"},
    "threads": {"threads_of": "pattern, laying, sectors", "thread_row": "windings, sectors",
                "round_threads": "windings, sectors"},
    "keeps": {"repeated": "laying, sectors", "turned_laying": "pattern, sectors, laying, by",
              "is_kept": "pattern, sectors, laying, order", "kept_order": "pattern, sectors, laying"},
}

ERRORS = {
    "ThreadError": ("ValueError", None),
    "PaperError": ("ThreadError", None),
    "PatternError": ("ThreadError", None),
    "LiveError": ("ThreadError", None),
    "TextError": ("ThreadError", None),
    "InvalidPaper": ("PaperError", ("word", "at")),
    "NotUsable": ("PatternError", ("word", "at")),
    "NotLayable": ("PatternError", ("word", "at")),
    "NotSmooth": ("PatternError", ("word",)),
    "InvalidEvent": ("LiveError", ("event", "reason")),
    "NothingToUndo": ("LiveError", ("steps",)),
    "InvalidText": ("TextError", ("line", "field")),
    "InvalidRow": ("TextError", ("row",)),
}

CLASSES = {
    "patternclasses": {
        "Pattern": {
            "__init__": "self, pattern", "told": "property", "faces_told": "property", "as_line": "property",
            "__len__": "self", "__iter__": "self", "__contains__": "self, x", "__eq__": "self, other",
            "spin": "self, crossing, *, quarters=1", "move": "self, crossing, *, by=1", "mirror": "self",
            "turn_in": "self", "of_strands": "cls, width, word", "read_line": "cls, text",
        },
    },
    "buildclasses": {
        "Building": {
            "__init__": "self, pattern", "first_told": "property", "now_told": "property", "deeds": "property",
            "__len__": "self", "__eq__": "self, other", "smooth": "self, crossing, letter",
            "put": "self, corner, other", "petal": "self, end, *, shift=0", "nest_in": "self, other, place, corner",
            "back": "self, *, many=1", "least": "self", "by_deeds": "cls, pattern, deeds",
        },
    },
}

ALL_CLASSES = [*ERRORS, *[name for classes in CLASSES.values() for name in classes]]
