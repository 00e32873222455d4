"""The numbers that calls answer when they refuse."""

FOREIGN = -1
MISSING = -2
TAKEN = -17
WRONG = -22
FULL = -28
