"""Weights on points."""
