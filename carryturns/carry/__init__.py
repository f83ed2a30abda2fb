"""Carries of additions of logs, and what they tell of sums J."""
