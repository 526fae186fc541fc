"""Halves, singles, doubles: each result rounded once. The calls are in roundedonce.floats."""
