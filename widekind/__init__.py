"""Widekind: pieces with functions and lets, and the widest kind of each."""
