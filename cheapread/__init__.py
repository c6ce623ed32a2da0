"""Cheapread: the cheapest readings of a row, and how many there are."""
