"""Turn numbers: sums of roots of unity with integers."""
