"""Ideals of turn numbers."""
