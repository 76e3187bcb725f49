"""Rolls of all kinds of branches that lack so much."""
