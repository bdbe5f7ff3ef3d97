"""The numbers of the refusals."""

WRONG_NUMBER = -1
NOT_THERE = -2
WRONG_LIST = -3
NO_WAY = -4
FULL = -5
NO_LAND = -8
