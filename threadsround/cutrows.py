"""What a ring row alone tells."""

from threadsround.needs import need


def cut_by_row(row):
    """Twice the degree, and 1 more if the row does not begin with 0."""
    need(row != (), "row")
    return 2 * (len(row) - 1) + int(row[0] != 0)


def loops_told(row):
    """The pairs (loops, how many layings), ascending, the latter not 0."""
    need(row != (), "row")
    more = int(row[0] != 0)
    return tuple([(2 * j + more, number) for j, number in enumerate(row) if number != 0])
