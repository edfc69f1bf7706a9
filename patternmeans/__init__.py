"""Patterns by what they mean: which pieces of a text they fit, and which are found."""
