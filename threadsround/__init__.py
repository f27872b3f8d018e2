"""Threadsround: a pattern turned round a middle, laid with threads."""
