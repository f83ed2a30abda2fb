"""Periods of finite fields."""
