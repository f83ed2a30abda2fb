"""Fields above a finite field."""
