"""What the tests share: calls written by name, answers split call by call, numbers by their parts, and rounding as
the document words it, over fractions and without the program."""

import math
from fractions import Fraction

from ringreckon.reckoner import answers

BEGIN = [0]
TOLD = [3]
STORE = [8]
BITS = [10]
ROOT = [15]
NEAR = [16]
SCALE = [17]
SPLIT = [18]
KIND = [23]

EMPTY_ROW = [0, 0, 0, 0, 0, 0, 0, 0, 1, 0]
NONE_ROW = [0, 0, 0, 0, 0, 0, 0, 0xC0, 0xFF, 0xFF]

TOP_BIT = 1 << 63
ALL_BITS = (1 << 64) - 1

# The least and the greatest whole number that a plain argument may be.
ENDS = (-2147483648, 2147483647)


def control(way, length):
    return [1, way, length]


def flags(clear=0):
    return [2, clear]


def load(row):
    return [4, len(row)] + row


def whole(n):
    return [5, n]


def double(bits):
    return [6, bits]


def copy(i):
    return [7, i]


def to_int(way):
    return [9, way]


def swap(i):
    return [11, i]


def turn(steps):
    return [12, steps]


def free(i):
    return [13, i]


def do(op, i, to=0):
    return [14, op, i, to]


def rest(kind):
    return [19, kind]


def set_sign(how):
    return [20, how]


def compare(strict, i):
    return [21, strict, i]


def against(n):
    return [22, n]


def row_of(sign, exponent, bits):
    """Ten bytes by the parts of a number."""
    return list((sign << 79 | exponent << 64 | bits).to_bytes(10, "little"))


def split(flat):
    """The answers one by one, each without its count."""
    parts = []
    place = 0
    while place < len(flat):
        count = flat[place]
        parts.append(flat[place + 1:place + 1 + count])
        place += 1 + count
    return parts


def run(*calls):
    """The answers to these calls, with a begin ahead of them that isn't told."""
    return split(answers(BEGIN + [n for call in calls for n in call]))[1:]


def last(*calls):
    return run(*calls)[-1]


def told_of(way, length, flag_sum, rows):
    """What told answers when the first registers have these rows and the others are empty."""
    answer = [0, way, length, flag_sum]
    for row in rows + [EMPTY_ROW] * (8 - len(rows)):
        answer += row
    return answer


def wholes(*numbers):
    """Calls that push these whole numbers, one behind another."""
    return [whole(n) for n in numbers]


def whole_row(n):
    """The ten bytes of a whole number that isn't 0, told without the program."""
    size = abs(n)
    return row_of(int(n < 0), 16383 + size.bit_length() - 1, size << (64 - size.bit_length()))


def check_refused(case, before, call, refusal):
    """The call is refused with this number alone, and told is the same before and after it."""
    got = run(*before, TOLD, call, TOLD)[-3:]
    case.assertEqual(got[1], [refusal], call)
    case.assertEqual(got[0], got[2], call)


def minus(row):
    """The row with the other sign."""
    return row[:9] + [row[9] ^ 0x80]


ZERO = row_of(0, 0, 0)
ONE = whole_row(1)
LEAST = row_of(0, 0, 1)
MOST_SMALL = row_of(0, 0, TOP_BIT - 1)
LEAST_FULL = row_of(0, 1, TOP_BIT)
GREATEST = row_of(0, 32766, ALL_BITS)
INFINITE = row_of(0, 32767, TOP_BIT)

PLACES = (24, 53, 64)

# The way of the same outcome when the sign is the other one.
MIRRORED = (0, 2, 1, 3)

# One row of each sort, both signs.
SMALL_ROWS = [LEAST, minus(LEAST), MOST_SMALL, minus(MOST_SMALL), row_of(0, 0, 5 << 40), row_of(1, 0, 1 << 62)]
FULL_ROWS = [ONE, whole_row(-1), whole_row(7), row_of(1, 16380, 0xABCDEF0123456789), LEAST_FULL, minus(LEAST_FULL),
             GREATEST, minus(GREATEST)]
ZERO_ROWS = [ZERO, minus(ZERO)]
INFINITE_ROWS = [INFINITE, minus(INFINITE)]
NUMBER_ROWS = ZERO_ROWS + SMALL_ROWS + FULL_ROWS + INFINITE_ROWS


def power_row(power, of_sign=0):
    """2^power, where that is a full number."""
    return row_of(of_sign, 16383 + power, TOP_BIT)


def sign_in(row):
    return row[9] >> 7


def value_of_row(row):
    """The value of a finite number by its ten bytes, as a fraction."""
    number = int.from_bytes(bytes(row), "little")
    exponent = max(number >> 64 & 32767, 1)
    size = Fraction(number & ALL_BITS) * Fraction(2) ** (exponent - 16383 - 63)
    return -size if number >> 79 else size


def lead(value):
    """The E with 2^E no more than the value without its sign, and 2^(E + 1) more."""
    size = abs(value)
    guess = size.numerator.bit_length() - size.denominator.bit_length()
    return guess if Fraction(2) ** guess <= size else guess - 1


def made_whole(value, way):
    """A fraction made whole; Python's round takes the even one of two as near."""
    return (round(value), math.floor(value), math.ceil(value), math.trunc(value))[way]


def multiple(value, power, way):
    return made_whole(value / Fraction(2) ** power, way) * Fraction(2) ** power


def row_of_value(value, zero_sign=0):
    """The row of a value that is a number as it stands."""
    if value == 0:
        return row_of(zero_sign, 0, 0)
    unit = max(lead(value), -16382) - 63
    bits = abs(value) / Fraction(2) ** unit
    assert bits.denominator == 1
    exponent = unit + 63 + 16383 if bits >= TOP_BIT else 0
    return row_of(int(value < 0), exponent, int(bits))


def rounded_row(value, places, way):
    """The row and the flags that rounding makes of a fraction that isn't 0."""
    minus_sign = int(value < 0)
    free_of_bounds = multiple(value, lead(value) - places + 1, way)
    if abs(free_of_bounds) >= Fraction(2) ** 16384:
        to_infinity = way == 0 or way == (1 if minus_sign else 2)
        last_row = row_of(minus_sign, 32766, ((1 << places) - 1) << (64 - places))
        return row_of(minus_sign, 32767, TOP_BIT) if to_infinity else last_row, 40
    near = multiple(value, max(lead(value), -16382) - places + 1, way)
    if near == value:
        return row_of_value(value), 0
    too_small = abs(free_of_bounds) < Fraction(2) ** -16382
    return row_of_value(near, minus_sign), 48 if too_small else 32


def outcome(call, rows, way=0, length=2):
    """The answer, the flags and the eight rows behind a call on a ring that has these rows, the top's first."""
    told = run(*[load(row) for row in reversed(rows)], control(way, length), call, TOLD)[-2:]
    return told[0], told[1][3], [told[1][4 + 10 * k:14 + 10 * k] for k in range(8)]


def check_outcome(case, call, rows, expected, way=0, length=2):
    """Expected has the answer, the flags, and the rows of those registers that aren't empty behind the call."""
    answer, flag_sum, after = expected
    got = outcome(call, rows, way, length)
    case.assertEqual(got, ([answer], flag_sum, after + [EMPTY_ROW] * (8 - len(after))), (call, rows, way, length))
