"""Reckoning with finite values, exactly, or as near as no rounding can tell from it."""

from ringreckon.codes import DOWN
from ringreckon.rounding import Exact, exact_whole, made_whole, size_by

# Far enough that a whole quotient or root has more than 65 bits: what is cut off it lies behind every tie.
QUOTIENT_SHIFT = 130
ROOT_SHIFT = 134


class Division:
    """The whole number that one value has of another, without a sign, and the value that is left."""

    def __init__(self, whole, left):
        self.whole = whole
        self.left = left


def signed_units(value, unit):
    units = size_by(value, unit)
    return -units if value.sign == 1 else units


def sign_of_no_sum(one, other, way):
    """The sign of a sum that is 0."""
    if one.sign == other.sign:
        return one.sign
    return 1 if way == DOWN else 0


def sum_of(one, other, way):
    unit = min(one.power, other.power)
    n = signed_units(one, unit) + signed_units(other, unit)
    if n == 0:
        return Exact(sign_of_no_sum(one, other, way), 0, unit)
    return exact_whole(n, unit)


def product_of(one, other):
    return Exact(one.sign ^ other.sign, one.size * other.size, one.power + other.power)


def with_tail(sign, whole, is_more, power):
    """Whole by 2^power, and half a unit more in the place of any part of a unit."""
    return Exact(sign, 2 * whole + (1 if is_more else 0), power - 1)


def quotient_of(one, other):
    """One by the other, which is not 0."""
    size = one.size << QUOTIENT_SHIFT
    power = one.power - other.power - QUOTIENT_SHIFT
    return with_tail(one.sign ^ other.sign, size // other.size, size % other.size > 0, power)


def whole_root(n):
    """The greatest whole number whose square is no more than n; n is not 0."""
    root = 1 << ((n.bit_length() + 1) // 2)
    lower = (root + n // root) // 2
    while lower < root:
        root = lower
        lower = (root + n // root) // 2
    return root


def root_of(value):
    """The root of a value above 0."""
    # The power that is left has to be even, for it is halved.
    shift = ROOT_SHIFT + value.power % 2
    size = value.size << shift
    root = whole_root(size)
    return with_tail(0, root, root * root < size, (value.power - shift) // 2)


def divided(one, other, way):
    """One by the other, which is not 0, made whole by the way."""
    unit = min(one.power, other.power)
    size = size_by(one, unit)
    part = size_by(other, unit)
    whole = made_whole(one.sign ^ other.sign, size, part, way)
    left = size - whole * part
    sign = one.sign if left >= 0 else 1 - one.sign
    return Division(whole, Exact(sign, abs(left), unit))
