"""Kinds of branches: those with equal generators."""
