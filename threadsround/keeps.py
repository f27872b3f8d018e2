"""Layings repeated, turned, and kept by turnings."""

from threadsround.kinds import is_count, is_number
from threadsround.layingkinds import is_laying
from threadsround.needs import need


def repeated(laying, sectors):
    """The string laying written sectors times."""
    need(isinstance(laying, str) and laying != "" and is_laying(len(laying), laying), "laying")
    need(is_count(sectors), "sectors")
    return laying * sectors


def need_drawn_laying(pattern, sectors, laying):
    """Refuse the first of sectors and laying, a laying of the drawing, that is not as stated."""
    need(is_count(sectors), "sectors")
    need(is_laying(len(pattern) // 4 * sectors, laying), "laying")


def turned_by(laying, size, by):
    """The laying turned by so many sectors of size letters, by not above all there are."""
    parting = len(laying) - size * by
    return laying[parting:] + laying[:parting]


def turned_laying(pattern, sectors, laying, by):
    """The laying of the drawing turned by so many sectors."""
    need_drawn_laying(pattern, sectors, laying)
    need(is_number(by), "by")
    return turned_by(laying, len(pattern) // 4, by % sectors)


def is_kept(pattern, sectors, laying, order):
    """Whether the laying of the drawing is kept by the turnings of order."""
    need_drawn_laying(pattern, sectors, laying)
    need(is_count(order) and sectors % order == 0, "order")
    return turned_by(laying, len(pattern) // 4, sectors // order) == laying


def kept_order(pattern, sectors, laying):
    """The greatest order by whose turnings the laying of the drawing is kept."""
    need_drawn_laying(pattern, sectors, laying)
    size = len(pattern) // 4
    orders = [order for order in range(1, sectors + 1) if sectors % order == 0]
    return max([order for order in orders if turned_by(laying, size, sectors // order) == laying])
