"""Arrows and what they make: the calls are answered in arrowsmake.categories."""
