"""Counts of layings of drawings, all of whose loops go round."""

from threadsround.cutrows import loops_told
from threadsround.kinds import is_count
from threadsround.needs import need
from threadsround.ringrows import ring_row
from threadsround.rowturning import row_turned


def round_row(pattern, sectors):
    """The ring row of the drawing of sectors."""
    return row_turned(ring_row(pattern), sectors)


def round_count(pattern, sectors, many):
    """How many counted layings of the drawing have just many loops."""
    row = round_row(pattern, sectors)
    need(is_count(many), "many")
    return dict(loops_told(row)).get(many, 0)
