"""Reciprocity of symbols, and primes as sums of squares."""
