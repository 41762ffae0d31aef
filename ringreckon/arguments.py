"""What an argument of a call may be."""

from ringreckon.ring import REGISTERS


def is_within(n, low, high):
    return low <= n and n <= high


def is_place(i):
    return is_within(i, 0, REGISTERS - 1)
