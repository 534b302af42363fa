"""Prints values, and tells all scannings of a text in order."""
