"""A bench on which turn numbers and equations are kept."""
