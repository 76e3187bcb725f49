"""Trees of exceptional curves."""
