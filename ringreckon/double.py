"""IEEE 754 doubles by their 64 bits: a sign, 11 bits of exponent, 52 bits behind the point."""

from ringreckon.codes import TOWARDS_ZERO
from ringreckon.number import INFINITY, NONE, number_of, with_sign
from ringreckon.rounding import Exact, Form, lead_of, units_in

DOUBLE_NONE = 0x7FF8000000000000
DOUBLE_INFINITY = 0x7FF0000000000000

PLACES = 53
LEAST = -1022
LIMIT = 1024
LOWEST_UNIT = -1074


def double_form():
    return Form(PLACES, LEAST, LIMIT)


def exponent_in(bits):
    return (bits >> 52) % 2 ** 11


def fraction_in(bits):
    return bits % 2 ** 52


def is_small_double(bits):
    """Whether the double is one with fewer bits, and not 0."""
    return exponent_in(bits) == 0 and fraction_in(bits) > 0


def number_of_double(bits):
    """The number that is the double, which every double has."""
    sign = bits >> 63
    exponent = exponent_in(bits)
    fraction = fraction_in(bits)
    if exponent == 2047:
        return with_sign(sign, INFINITY) if fraction == 0 else NONE
    if exponent == 0:
        return number_of(Exact(sign, fraction, LOWEST_UNIT))
    return number_of(Exact(sign, fraction + 2 ** 52, exponent - 1 + LOWEST_UNIT))


def infinite_double(sign):
    return (sign << 63) + DOUBLE_INFINITY


def double_of(value):
    """The bits for a value that is rounded already; 2^1024 comes out as infinity by its very bits."""
    if value.size == 0:
        return value.sign << 63
    lead = max(lead_of(value), LEAST)
    size = units_in(value, lead - PLACES + 1, TOWARDS_ZERO)
    # The leading bit, where there is one, lies at the exponent's lowest and so counts it up by one.
    return (value.sign << 63) + ((lead - LEAST) << 52) + size
