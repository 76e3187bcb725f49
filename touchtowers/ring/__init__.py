"""Rings of branches, cut at sizes."""
