"""The numbers that are answered in the place of what was asked for."""

WRONG = -1
CANNOT_BE_HAD = -6
FULL = -7
