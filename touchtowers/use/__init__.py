"""A bench of curves and weights."""
