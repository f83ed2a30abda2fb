"""Difference sets and words made of the classes of a field."""
