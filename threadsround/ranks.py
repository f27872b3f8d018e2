"""Layings of a manner by their places in their list."""

from threadsround.kinds import is_number
from threadsround.lists import layings_of
from threadsround.manners import is_laying_of, manner_count, need_manner
from threadsround.needs import need


def laying_with_place(pattern, manner, place):
    """The laying at this place."""
    layings = list(layings_of(pattern, manner))
    return layings[place]


def rank_of(pattern, manner, laying):
    """At which place the laying of the manner stands."""
    need_manner(manner)
    need(is_laying_of(pattern, manner, laying), "laying")
    layings = list(layings_of(pattern, manner))
    return layings.index(laying)


def laying_at(pattern, manner, place):
    """The laying of the manner at this place."""
    need_manner(manner)
    need(is_number(place) and place < manner_count(pattern, manner), "place")
    return laying_with_place(pattern, manner, place)


def drawn_by(pattern, manner, die):
    """The laying of the manner at the place die, modulo how many there are."""
    need_manner(manner)
    need(is_number(die), "die")
    return laying_with_place(pattern, manner, die % manner_count(pattern, manner))
