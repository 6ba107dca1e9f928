"""Fewtold: a row with few numbers, told by fewer sums."""
