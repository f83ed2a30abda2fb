"""Finite fields."""
