"""Threads told by sectors."""

from threadsround.drawings import end_told
from threadsround.threads import threads_of


def pen_rows(pattern, laying, sectors):
    """The threads, each end as the pair (sector, end of the pattern)."""
    threads = threads_of(pattern, laying, sectors)
    return tuple([tuple([end_told(pattern, sectors, end) for end in thread]) for thread in threads])
