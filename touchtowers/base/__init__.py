"""Integers, polynomials in t, and tables modulo a prime."""
