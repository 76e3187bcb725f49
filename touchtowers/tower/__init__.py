"""Points above the origin, and what branches do there."""
