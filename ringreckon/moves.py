"""The calls that keep, push, pop and move numbers: each takes the ring and the call's numbers, and answers."""

from ringreckon.arguments import is_place, is_within
from ringreckon.codes import BAD_ARGUMENT, BAD_NUMBER, DONE, IS_EMPTY, IS_FULL
from ringreckon.codes import NOT_EXACT, NOTHING_CAME, SMALL_TAKEN
from ringreckon.double import DOUBLE_NONE, double_form, double_of, infinite_double, is_small_double, number_of_double
from ringreckon.number import BYTES, EMPTY, NONE, as_kept, exact_of, from_row, is_infinite, is_well_formed
from ringreckon.number import number_of_whole, sign_of, to_row
from ringreckon.rounding import rounded, same_size, to_multiple

WAY_THAT_IS_SET = 4


def call_begin(ring, given):
    ring.begin()
    return [DONE]


def call_control(ring, given):
    way = given[0]
    length = given[1]
    if not is_within(way, 0, 3) or not is_within(length, 0, 2):
        return [BAD_ARGUMENT]
    ring.way = way
    ring.length = length
    return [DONE]


def call_flags(ring, given):
    clear = given[0]
    if not is_within(clear, 0, 1):
        return [BAD_ARGUMENT]
    flags = ring.flags
    if clear == 1:
        ring.flags = 0
    return [flags]


def call_told(ring, given):
    answer = [DONE, ring.way, ring.length, ring.flags]
    for number in ring.registers:
        answer.extend(to_row(number))
    return answer


def pushed(ring, number):
    """The answer to a call that does nothing but push."""
    if ring.is_full():
        return [IS_FULL]
    ring.push(number)
    return [DONE]


def is_ten_bytes(row):
    return len(row) == BYTES and all([is_within(byte, 0, 255) for byte in row])


def call_load(ring, given):
    row = given[1:]
    if not is_ten_bytes(row):
        return [BAD_ARGUMENT]
    number = from_row(row)
    if not is_well_formed(number):
        return [BAD_NUMBER]
    return pushed(ring, as_kept(number))


def call_whole(ring, given):
    n = given[0]
    if not is_within(n, -(2 ** 63), 2 ** 63 - 1):
        return [BAD_ARGUMENT]
    return pushed(ring, number_of_whole(n))


def call_double(ring, given):
    bits = given[0]
    if not is_within(bits, 0, 2 ** 64 - 1):
        return [BAD_ARGUMENT]
    answer = pushed(ring, number_of_double(bits))
    if answer == [DONE] and is_small_double(bits):
        ring.set_flags(SMALL_TAKEN)
    return answer


def call_copy(ring, given):
    i = given[0]
    if not is_place(i):
        return [BAD_ARGUMENT]
    if ring.is_empty(i):
        return [IS_EMPTY]
    return pushed(ring, ring.registers[i])


def call_store(ring, given):
    if ring.is_empty(0):
        return [IS_EMPTY]
    return [DONE] + to_row(ring.take_top())


def nothing_whole(ring):
    """The whole number that stands for none, when there is no right one."""
    ring.set_flags(NOTHING_CAME)
    return -(2 ** 63)


def whole_from(ring, number, way):
    """The number made whole by the way, with the flags that this sets."""
    if number == NONE or is_infinite(number):
        return nothing_whole(ring)
    value = exact_of(number)
    near = to_multiple(value, 0, way)
    n = -near.size if near.sign == 1 else near.size
    if not is_within(n, -(2 ** 63), 2 ** 63 - 1):
        return nothing_whole(ring)
    if not same_size(value, near):
        ring.set_flags(NOT_EXACT)
    return n


def call_int(ring, given):
    way = given[0]
    if not is_within(way, 0, WAY_THAT_IS_SET):
        return [BAD_ARGUMENT]
    if ring.is_empty(0):
        return [IS_EMPTY]
    if way == WAY_THAT_IS_SET:
        way = ring.way
    return [DONE, whole_from(ring, ring.take_top(), way) % 2 ** 64]


def double_from(ring, number):
    """The bits of the number rounded to a double, with the flags that this sets."""
    if number == NONE:
        return DOUBLE_NONE
    if is_infinite(number):
        return infinite_double(sign_of(number))
    result = rounded(exact_of(number), double_form(), ring.way)
    ring.set_flags(result.flags)
    return double_of(result.value)


def call_bits(ring, given):
    if ring.is_empty(0):
        return [IS_EMPTY]
    return [DONE, double_from(ring, ring.take_top())]


def call_swap(ring, given):
    i = given[0]
    if not is_place(i):
        return [BAD_ARGUMENT]
    if ring.is_empty(0) or ring.is_empty(i):
        return [IS_EMPTY]
    ring.swap(i)
    return [DONE]


def call_turn(ring, given):
    steps = given[0]
    if not is_within(steps, -7, 7):
        return [BAD_ARGUMENT]
    ring.turn(steps)
    return [DONE]


def call_free(ring, given):
    i = given[0]
    if not is_place(i):
        return [BAD_ARGUMENT]
    ring.registers[i] = EMPTY
    return [DONE]


MOVES = {
    0: call_begin,
    1: call_control,
    2: call_flags,
    3: call_told,
    4: call_load,
    5: call_whole,
    6: call_double,
    7: call_copy,
    8: call_store,
    9: call_int,
    10: call_bits,
    11: call_swap,
    12: call_turn,
    13: call_free,
}


def answer_of_move(call, ring, given):
    return MOVES[call](ring, given)
