"""Moves of counters, a million million rounds at once."""
