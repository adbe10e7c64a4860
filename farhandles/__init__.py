"""Farhandles: a count at home, handles far away."""
