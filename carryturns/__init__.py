"""Sums of roots of unity over finite fields, and one table that tells them."""
