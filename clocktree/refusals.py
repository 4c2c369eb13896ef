"""The numbers that refusals are."""

NO_SUCH_ONE = -2
NO_CHANGE = -6
TOO_MANY_SHAPES = -7
NOT_THERE = -16
OUT_OF_BOUNDS = -22
NO_ROOM = -28
