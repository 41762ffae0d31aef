"""Numbers of 80 bits, each kept as one whole number: 64 bits, above them 15 of exponent, then the sign."""

from ringreckon.codes import TOWARDS_ZERO
from ringreckon.rounding import Exact, Form, exact_whole, lead_of, units_in

# Exponent 1 with no bit set: no number is so.
EMPTY = 0x00010000000000000000
NONE = 0xFFFFC000000000000000
INFINITY = 0x7FFF8000000000000000

BYTES = 10
TOP_EXPONENT = 32767
BIAS = 16383
LEAST_LEAD = -16382
LIMIT = 16384

# How many bits a number is rounded to, by the length.
PLACES = (24, 53, 64)
LONGEST = 2


def sign_of(number):
    return number >> 79


def exponent_of(number):
    return (number >> 64) % 2 ** 15


def bits_of(number):
    return number % 2 ** 64


def with_sign(sign, number):
    """A number without a sign, given one."""
    return (sign << 79) + number


def without_sign(number):
    return number - with_sign(sign_of(number), 0)


def opposite(number):
    """The number with the other sign."""
    return with_sign(1 - sign_of(number), without_sign(number))


def is_zero(number):
    return without_sign(number) == 0


def is_small(number):
    return exponent_of(number) == 0 and bits_of(number) > 0


def is_infinite(number):
    return exponent_of(number) == TOP_EXPONENT and bits_of(number) == 2 ** 63


def is_well_formed(number):
    """Whether the highest of the 64 bits is set where the exponent asks for it, and only there."""
    return (bits_of(number) >= 2 ** 63) == (exponent_of(number) > 0)


def as_kept(number):
    """The number itself, but the one kept form for all that is none."""
    if exponent_of(number) == TOP_EXPONENT and not is_infinite(number):
        return NONE
    return number


def from_row(row):
    """The number that ten bytes tell, the lowest first."""
    number = 0
    for byte in reversed(row):
        number = number * 256 + byte
    return number


def to_row(number):
    """The ten bytes of a number, the lowest first."""
    row = []
    for place in range(BYTES):
        row.append((number >> (8 * place)) % 256)
    return row


def number_form(length):
    """What a number is rounded to, by the length."""
    return Form(PLACES[length], LEAST_LEAD, LIMIT)


def exact_of(number):
    """The value of a finite number."""
    # Exponent 0 stands for the same power as exponent 1.
    exponent = max(exponent_of(number), 1)
    return Exact(sign_of(number), bits_of(number), exponent - BIAS - 63)


def number_of(value):
    """The number for a value that needs no rounding; 2^16384 comes out as infinity by its very bits."""
    if value.size == 0:
        return with_sign(value.sign, 0)
    lead = lead_of(value)
    bits = units_in(value, max(lead, LEAST_LEAD) - 63, TOWARDS_ZERO)
    if lead < LEAST_LEAD:
        return with_sign(value.sign, bits)
    return with_sign(value.sign, ((lead + BIAS) << 64) + bits)


def number_of_whole(n):
    """The number for a whole number of at most 64 bits."""
    return number_of(exact_whole(n, 0))
