"""The numbers that bound rows, slips, mixtures and changes."""

MOST_DRAWS = 5
MOST_SLIPS = 10 ** 30
MOST_ROWS = 8
MOST_CHANGES = 6
