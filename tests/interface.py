"""The names, files and parameters that the interface lists."""

FUNCTIONS = {
    "kinds": {"is_integer": "thing", "is_number": "thing", "is_quotient": "thing", "is_row": "thing",
              "is_word": "width, thing"},
    "quotients": {"quotient_of": "top, bottom", "plus": "one, other", "minus": "one, other", "times": "one, other",
                  "over": "one, other", "is_less": "one, other"},
    "rows": {"row_of": "numbers", "row_plus": "row, other", "row_times": "row, other", "row_at": "row, value",
             "row_moved": "row, by", "sign_changes": "row"},
    "ends": {"crossing_of": "end", "next_end": "end", "end_before": "end", "end_across": "end",
             "partner_of": "pattern, end", "shift_of": "pattern, end", "lines_of": "pattern"},
    "patternchecker": {"lets_pattern": "thing", "is_pattern": "thing"},
    "faces": {"faces_of": "pattern", "face_at": "pattern, corner", "total_of": "pattern, face",
              "middle_of": "pattern", "outside_of": "pattern", "faces_round": "pattern, crossing"},
    "colours": {"colours_of": "pattern", "dark_corners": "pattern, crossing", "light_corners": "pattern, crossing"},
    "strands": {"strand_pattern": "width, word"},
    "namings": {"renamed": "pattern, order", "spun": "pattern, crossing, quarters",
                "moved_on": "pattern, crossing, by"},
    "mirrors": {"mirrored": "pattern", "inside_out": "pattern"},
    "patterntexts": {"pattern_line": "pattern", "read_pattern": "text"},
    "drawings": {"drawn": "pattern, sectors", "drawn_end": "pattern, sectors, sector, end",
                 "end_told": "pattern, sectors, end"},
}

ERRORS = {
    "ThreadError": ("ValueError", None),
    "PaperError": ("ThreadError", None),
    "PatternError": ("ThreadError", None),
    "LiveError": ("ThreadError", None),
    "TextError": ("ThreadError", None),
    "InvalidPaper": ("PaperError", ("word", "at")),
    "NotUsable": ("PatternError", ("word", "at")),
    "NotLayable": ("PatternError", ("word", "at")),
    "NotSmooth": ("PatternError", ("word",)),
    "InvalidEvent": ("LiveError", ("event", "reason")),
    "NothingToUndo": ("LiveError", ("steps",)),
    "InvalidText": ("TextError", ("line", "field")),
    "InvalidRow": ("TextError", ("row",)),
}

CLASSES = {
    "patternclasses": {
        "Pattern": {
            "__init__": "self, pattern", "told": "property", "faces_told": "property", "as_line": "property",
            "__len__": "self", "__iter__": "self", "__contains__": "self, x", "__eq__": "self, other",
            "spin": "self, crossing, *, quarters=1", "move": "self, crossing, *, by=1", "mirror": "self",
            "turn_in": "self", "of_strands": "cls, width, word", "read_line": "cls, text",
        },
    },
}

ALL_CLASSES = [*ERRORS, *[name for classes in CLASSES.values() for name in classes]]
