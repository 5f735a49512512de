"""The numbers below 0 that a refused call answers."""

OUT_OF_RANGE = -1
TOO_MANY = -3
NOT_THERE = -4
WRONG_LINE = -6
