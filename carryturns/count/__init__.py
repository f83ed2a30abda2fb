"""Equations between powers."""
