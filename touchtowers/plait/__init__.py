"""Polynomials of curves, and plaits."""
