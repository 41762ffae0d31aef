"""The numbers that stand for ways, flags and refusals."""

NEAREST = 0
DOWN = 1
UP = 2
TOWARDS_ZERO = 3

NOTHING_CAME = 1
SMALL_TAKEN = 2
BY_ZERO = 4
TOO_GREAT = 8
TOO_SMALL = 16
NOT_EXACT = 32

DONE = 0
BAD_ARGUMENT = -2
BAD_NUMBER = -3
IS_EMPTY = -4
IS_FULL = -5
