"""Thrown together: spreads on one ground, how far apart they are, and plans of two of them."""
