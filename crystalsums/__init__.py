"""Exact sums over a crystal's points; the calls are in crystalsums.reflections."""
