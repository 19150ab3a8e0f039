"""Moments of a notebook: what differs between two, which edit did it, and the fewest edits that still break a check."""
