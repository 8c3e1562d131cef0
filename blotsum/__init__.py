"""Blotsum: sums whose figures can't all be read."""
