"""Swings counted: the calls are answered by swingcounts.pack.answers."""
