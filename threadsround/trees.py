"""Layings with one loop, and the trees of webs."""

from threadsround.determinants import whole_determinant
from threadsround.layingkinds import is_plain, need_laying
from threadsround.loops import loops_of
from threadsround.webs import dark_web


def web_trees(web):
    """How many sets of ties without a ring lead from each place to each other one."""
    places, _, ties = web
    lines = [[0] * len(places) for _ in places]
    for one, other, _ in ties:
        # For a tie from a place to itself all this comes to nothing.
        lines[one][one] += 1
        lines[other][other] += 1
        lines[one][other] -= 1
        lines[other][one] -= 1
    return whole_determinant([line[1:] for line in lines[1:]])


def tree_count(pattern):
    """The number of the trees of pattern."""
    return web_trees(dark_web(pattern))


def is_tree(pattern, laying):
    """Whether the laying is plain and has just one loop."""
    need_laying(pattern, laying)
    return is_plain(len(laying), laying) and len(loops_of(pattern, laying)) == 1
