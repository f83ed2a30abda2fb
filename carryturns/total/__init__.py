"""Sums J of characters."""
