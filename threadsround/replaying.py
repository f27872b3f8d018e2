"""Benches made again from their logs."""

from threadsround.bench import Bench
from threadsround.benchevents import is_log
from threadsround.needs import need


def replayed(log):
    """A new bench of the log's state, after all of its events."""
    need(is_log(log), "log")
    state, events = log
    bench = Bench(state)
    bench.do_all(events)
    return bench
