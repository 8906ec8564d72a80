"""Palette reduction: optimal one-dimensional clustering with medians."""
