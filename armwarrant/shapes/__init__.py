"""Vectors, gaps, lines and boxes."""
