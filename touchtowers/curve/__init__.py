"""Curves of several branches, and what matches them."""
