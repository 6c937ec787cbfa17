"""The numbers below 0 that a refused call answers."""

OUT_OF_BOUNDS = -1
NO_BRANCH = -2
IS_BRANCH_ZERO = -3
IS_THERE = -4
NO_KEY = -5
NO_ROOM = -6
TOO_MANY = -7
NOTHING_FOUND = -8
