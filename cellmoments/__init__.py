"""Moments of a notebook: what its cells show at each position of its history."""
