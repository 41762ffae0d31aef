"""The calls that reckon with numbers or tell of them: each takes the ring and the call's numbers, and answers."""

from ringreckon.arguments import is_place, is_within
from ringreckon.codes import BAD_ARGUMENT, DONE, IS_EMPTY, IS_FULL, NOTHING_CAME, SMALL_TAKEN
from ringreckon.number import NONE, is_infinite, is_small, is_zero, number_form, number_of_whole, opposite, sign_of
from ringreckon.number import without_sign
from ringreckon.results import do_result, exponent_result, near_result, rest_result, root_result, scale_result
from ringreckon.results import without_exponent

BELOW = 0
ALIKE = 1
ABOVE = 2
ONE_IS_NONE = 3

KIND_NONE = 0
KIND_INFINITE = 1
KIND_ZERO = 2
KIND_SMALL = 3
KIND_OTHER = 4
KIND_WITH_MINUS = 8
KIND_EMPTY = 16


def is_small_taken(taken, flags):
    """Whether it is to be told that a number was small, where a call took these and sets these flags."""
    if NONE in taken or (flags & NOTHING_CAME) > 0:
        return False
    return any([is_small(number) for number in taken])


def keep_flags(ring, taken, flags):
    ring.set_flags(flags)
    if is_small_taken(taken, flags):
        ring.set_flags(SMALL_TAKEN)


def settle(ring, taken, to, result):
    """Puts the result at to, with the flags of a call that took these numbers."""
    keep_flags(ring, taken, result.flags)
    ring.registers[to] = result.number


def are_taken(ring, i):
    """Whether neither the top nor i is empty."""
    return not ring.is_empty(0) and not ring.is_empty(i)


def call_do(ring, given):
    op = given[0]
    i = given[1]
    to = given[2]
    if not is_within(op, 0, 5) or not is_place(i) or to not in (0, i):
        return [BAD_ARGUMENT]
    if not are_taken(ring, i):
        return [IS_EMPTY]
    x = ring.registers[0]
    y = ring.registers[i]
    settle(ring, [x, y], to, do_result(op, x, y, number_form(ring.length), ring.way))
    return [DONE]


def call_root(ring, given):
    if ring.is_empty(0):
        return [IS_EMPTY]
    x = ring.registers[0]
    settle(ring, [x], 0, root_result(x, number_form(ring.length), ring.way))
    return [DONE]


def call_near(ring, given):
    if ring.is_empty(0):
        return [IS_EMPTY]
    x = ring.registers[0]
    settle(ring, [x], 0, near_result(x, ring.way))
    return [DONE]


def call_scale(ring, given):
    if not are_taken(ring, 1):
        return [IS_EMPTY]
    x = ring.registers[0]
    y = ring.registers[1]
    settle(ring, [x, y], 0, scale_result(x, y, ring.way))
    return [DONE]


def call_split(ring, given):
    if ring.is_empty(0):
        return [IS_EMPTY]
    if ring.is_full():
        return [IS_FULL]
    x = ring.registers[0]
    settle(ring, [x], 0, exponent_result(x))
    ring.push(without_exponent(x))
    return [DONE]


def call_rest(ring, given):
    kind = given[0]
    if not is_within(kind, 0, 1):
        return [BAD_ARGUMENT]
    if not are_taken(ring, 1):
        return [IS_EMPTY]
    x = ring.registers[0]
    y = ring.registers[1]
    rest = rest_result(kind, x, y)
    settle(ring, [x, y], 0, rest.result)
    return [rest.low_bits]


def call_sign(ring, given):
    how = given[0]
    if not is_within(how, 0, 1):
        return [BAD_ARGUMENT]
    if ring.is_empty(0):
        return [IS_EMPTY]
    x = ring.registers[0]
    if x != NONE:
        ring.registers[0] = without_sign(x) if how == 0 else opposite(x)
    return [DONE]


def rank_of(number):
    """A whole number that is less for a lesser number, and 0 for both zeros."""
    # The exponent lies above the bits, so that without a sign numbers follow one another as their whole numbers do.
    rank = without_sign(number)
    return -rank if sign_of(number) == 1 else rank


def order_of(x, y):
    if x == NONE or y == NONE:
        return ONE_IS_NONE
    if rank_of(x) == rank_of(y):
        return ALIKE
    return BELOW if rank_of(x) < rank_of(y) else ABOVE


def compared(ring, x, y, strict):
    order = order_of(x, y)
    keep_flags(ring, [x, y], NOTHING_CAME if order == ONE_IS_NONE and strict == 1 else 0)
    return [order]


def call_compare(ring, given):
    strict = given[0]
    i = given[1]
    if not is_within(strict, 0, 1) or not is_place(i):
        return [BAD_ARGUMENT]
    if not are_taken(ring, i):
        return [IS_EMPTY]
    return compared(ring, ring.registers[0], ring.registers[i], strict)


def call_against(ring, given):
    n = given[0]
    if not is_within(n, -2147483648, 2147483647):
        return [BAD_ARGUMENT]
    if ring.is_empty(0):
        return [IS_EMPTY]
    return compared(ring, ring.registers[0], number_of_whole(n), 1)


def kind_without_sign(number):
    if is_infinite(number):
        return KIND_INFINITE
    if is_zero(number):
        return KIND_ZERO
    return KIND_SMALL if is_small(number) else KIND_OTHER


def call_kind(ring, given):
    if ring.is_empty(0):
        return [KIND_EMPTY]
    x = ring.registers[0]
    if x == NONE:
        return [KIND_NONE]
    return [kind_without_sign(x) + KIND_WITH_MINUS * sign_of(x)]


RECKONINGS = {
    14: call_do,
    15: call_root,
    16: call_near,
    17: call_scale,
    18: call_split,
    19: call_rest,
    20: call_sign,
    21: call_compare,
    22: call_against,
    23: call_kind,
}


def answer_of_reckoning(call, ring, given):
    return RECKONINGS[call](ring, given)
