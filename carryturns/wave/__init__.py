"""Gauss sums: sums with two kinds of roots of unity."""
