"""Saggar: a living image of objects."""
