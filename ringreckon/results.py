"""What comes of reckoning with numbers, those that are none, infinite or 0 among them, and the flags it sets."""

from ringreckon.arithmetic import divided, product_of, quotient_of, root_of, sum_of
from ringreckon.codes import BY_ZERO, NEAREST, NOT_EXACT, NOTHING_CAME, TOWARDS_ZERO
from ringreckon.number import INFINITY, LONGEST, NONE, exact_of, is_infinite, is_zero, number_form, number_of
from ringreckon.number import number_of_whole, opposite, sign_of, with_sign
from ringreckon.rounding import Exact, lead_of, rounded, same_size, to_multiple, units_in

# More powers of 2 than lie between the least number and what is too great: further than this is all the same.
FAR = 65536


class Result:
    """A number, and the flags that were set on the way to it."""

    def __init__(self, number, flags):
        self.number = number
        self.flags = flags


class Rest:
    """What a division leaves, and the lowest three bits of the whole number it makes."""

    def __init__(self, result, low_bits):
        self.result = result
        self.low_bits = low_bits


def plain(number):
    return Result(number, 0)


def nothing():
    return Result(NONE, NOTHING_CAME)


def infinite(sign):
    return with_sign(sign, INFINITY)


def result_of(value, form, way):
    """The value rounded to the form."""
    near = rounded(value, form, way)
    return Result(number_of(near.value), near.flags)


def sum_result(x, y, form, way):
    if is_infinite(x) and is_infinite(y) and x != y:
        return nothing()
    if is_infinite(x):
        return plain(x)
    if is_infinite(y):
        return plain(y)
    return result_of(sum_of(exact_of(x), exact_of(y), way), form, way)


def product_result(x, y, form, way):
    if is_infinite(x) or is_infinite(y):
        if is_zero(x) or is_zero(y):
            return nothing()
        return plain(infinite(sign_of(x) ^ sign_of(y)))
    return result_of(product_of(exact_of(x), exact_of(y)), form, way)


def quotient_result(x, y, form, way):
    sign = sign_of(x) ^ sign_of(y)
    if (is_zero(x) and is_zero(y)) or (is_infinite(x) and is_infinite(y)):
        return nothing()
    if is_infinite(x):
        return plain(infinite(sign))
    if is_infinite(y):
        return plain(with_sign(sign, 0))
    if is_zero(y):
        return Result(infinite(sign), BY_ZERO)
    return result_of(quotient_of(exact_of(x), exact_of(y)), form, way)


def do_result(op, x, y, form, way):
    """What the op, from 0 to 5, makes of the two."""
    if x == NONE or y == NONE:
        return plain(NONE)
    if op == 0:
        return sum_result(x, y, form, way)
    if op == 1:
        return sum_result(x, opposite(y), form, way)
    if op == 2:
        return sum_result(y, opposite(x), form, way)
    if op == 3:
        return product_result(x, y, form, way)
    if op == 4:
        return quotient_result(x, y, form, way)
    return quotient_result(y, x, form, way)


def root_result(x, form, way):
    if x == NONE or is_zero(x) or x == INFINITY:
        return plain(x)
    if sign_of(x) == 1:
        return nothing()
    return result_of(root_of(exact_of(x)), form, way)


def near_result(x, way):
    """The number made whole."""
    if x == NONE or is_infinite(x):
        return plain(x)
    value = exact_of(x)
    near = to_multiple(value, 0, way)
    return Result(number_of(near), 0 if same_size(value, near) else NOT_EXACT)


def scaled_without_end(x, sign):
    """The number times 2 to infinity with this sign."""
    if sign == 0:
        return nothing() if is_zero(x) else plain(infinite(sign_of(x)))
    return nothing() if is_infinite(x) else plain(with_sign(sign_of(x), 0))


def steps_of(y):
    """The number cut to a whole number, as far as it matters how great that is."""
    steps = min(units_in(exact_of(y), 0, TOWARDS_ZERO), FAR)
    return -steps if sign_of(y) == 1 else steps


def scale_result(x, y, way):
    if x == NONE or y == NONE:
        return plain(NONE)
    if is_infinite(y):
        return scaled_without_end(x, sign_of(y))
    if is_infinite(x):
        return plain(x)
    value = exact_of(x)
    return result_of(Exact(value.sign, value.size, value.power + steps_of(y)), number_form(LONGEST), way)


def exponent_result(x):
    """The power of 2 that split finds in the number."""
    if x == NONE:
        return plain(NONE)
    if is_infinite(x):
        return plain(INFINITY)
    if is_zero(x):
        return Result(infinite(1), BY_ZERO)
    return plain(number_of_whole(lead_of(exact_of(x))))


def without_exponent(x):
    """The number by the power of 2 that split finds in it."""
    if x == NONE or is_infinite(x) or is_zero(x):
        return x
    value = exact_of(x)
    return number_of(Exact(value.sign, value.size, value.power - lead_of(value)))


def rest_result(kind, x, y):
    if x == NONE or y == NONE:
        return Rest(plain(NONE), 0)
    if is_infinite(x) or is_zero(y):
        return Rest(nothing(), 0)
    if is_infinite(y):
        return Rest(plain(x), 0)
    division = divided(exact_of(x), exact_of(y), TOWARDS_ZERO if kind == 0 else NEAREST)
    # What is left never needs more bits than the number or the one it is divided by has.
    return Rest(plain(number_of(division.left)), division.whole % 8)
