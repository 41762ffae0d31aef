"""Finite values told exactly, and how they are rounded."""

from ringreckon.codes import DOWN, NEAREST, NOT_EXACT, TOO_GREAT, TOO_SMALL, UP


class Exact:
    """A finite value: size by 2^power, the sign 1 for a minus and 0 else."""

    def __init__(self, sign, size, power):
        self.sign = sign
        self.size = size
        self.power = power


class Form:
    """What values are rounded to: so many bits, full from 2^least on, all below 2^limit."""

    def __init__(self, places, least, limit):
        self.places = places
        self.least = least
        self.limit = limit


class Rounded:
    """What a rounding made, and the flags it sets."""

    def __init__(self, value, flags):
        self.value = value
        self.flags = flags


def exact_whole(n, power):
    """A whole number by 2^power."""
    return Exact(1 if n < 0 else 0, abs(n), power)


def lead_of(value):
    """The E with 2^E no more than the value without its sign, and 2^(E + 1) more; the value is not 0."""
    return value.power + value.size.bit_length() - 1


def outward(sign):
    """The way that leads from 0 for values of this sign."""
    return DOWN if sign == 1 else UP


def grows(sign, whole, rest, one, way):
    """Whether whole and rest / one more, 0 < rest < one, is rounded to whole + 1."""
    if way == NEAREST:
        return 2 * rest > one or (2 * rest == one and whole % 2 == 1)
    return way == outward(sign)


def made_whole(sign, size, one, way):
    """Size / one, both without the sign, made whole by the way."""
    whole = size // one
    rest = size % one
    if rest > 0 and grows(sign, whole, rest, one, way):
        return whole + 1
    return whole


def size_by(value, unit):
    """How many times 2^unit the value has, without its sign; unit is not above its power."""
    return value.size << (value.power - unit)


def units_in(value, unit, way):
    """How many times 2^unit the value has, without its sign, made whole by the way."""
    if value.power >= unit:
        return size_by(value, unit)
    return made_whole(value.sign, value.size, 1 << (unit - value.power), way)


def to_multiple(value, unit, way):
    """The multiple of 2^unit that the way leads to."""
    return Exact(value.sign, units_in(value, unit, way), unit)


def same_size(one, other):
    """Whether two values are alike without their signs."""
    unit = min(one.power, other.power)
    return size_by(one, unit) == size_by(other, unit)


def is_below(value, power):
    """Whether the value without its sign is below 2^power."""
    return value.size == 0 or lead_of(value) < power


def overflowed(sign, form, way):
    """What stands for a value that is too great; 2^limit stands for infinity."""
    if way == NEAREST or way == outward(sign):
        return Exact(sign, 1, form.limit)
    return Exact(sign, (1 << form.places) - 1, form.limit - form.places)


def is_tiny(value, form, way):
    """Whether the value stays below 2^least when it keeps all its places, however low they lie."""
    return is_below(to_multiple(value, lead_of(value) - form.places + 1, way), form.least)


def rounded(value, form, way):
    """The value rounded to the form; 2^limit stands for infinity."""
    if value.size == 0:
        return Rounded(value, 0)
    unit = max(lead_of(value), form.least) - form.places + 1
    near = to_multiple(value, unit, way)
    if not is_below(near, form.limit):
        return Rounded(overflowed(value.sign, form, way), TOO_GREAT | NOT_EXACT)
    if same_size(value, near):
        return Rounded(near, 0)
    if is_tiny(value, form, way):
        return Rounded(near, TOO_SMALL | NOT_EXACT)
    return Rounded(near, NOT_EXACT)
