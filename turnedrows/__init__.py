"""Turnedrows: the fewest moves that lead one row of pieces into another."""
