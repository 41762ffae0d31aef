"""What the tests share: calls written by name, answers split call by call, numbers by their parts."""

from ringreckon.reckoner import answers

BEGIN = [0]
TOLD = [3]
STORE = [8]
BITS = [10]

EMPTY_ROW = [0, 0, 0, 0, 0, 0, 0, 0, 1, 0]
NONE_ROW = [0, 0, 0, 0, 0, 0, 0, 0xC0, 0xFF, 0xFF]

TOP_BIT = 1 << 63
ALL_BITS = (1 << 64) - 1

# The least and the greatest whole number that a plain argument may be.
ENDS = (-2147483648, 2147483647)


def control(way, length):
    return [1, way, length]


def flags(clear=0):
    return [2, clear]


def load(row):
    return [4, len(row)] + row


def whole(n):
    return [5, n]


def double(bits):
    return [6, bits]


def copy(i):
    return [7, i]


def to_int(way):
    return [9, way]


def swap(i):
    return [11, i]


def row_of(sign, exponent, bits):
    """Ten bytes by the parts of a number."""
    return list((sign << 79 | exponent << 64 | bits).to_bytes(10, "little"))


def split(flat):
    """The answers one by one, each without its count."""
    parts = []
    place = 0
    while place < len(flat):
        count = flat[place]
        parts.append(flat[place + 1:place + 1 + count])
        place += 1 + count
    return parts


def run(*calls):
    """The answers to these calls, with a begin ahead of them that isn't told."""
    return split(answers(BEGIN + [n for call in calls for n in call]))[1:]


def last(*calls):
    return run(*calls)[-1]


def told_of(way, length, flag_sum, rows):
    """What told answers when the first registers have these rows and the others are empty."""
    answer = [0, way, length, flag_sum]
    for row in rows + [EMPTY_ROW] * (8 - len(rows)):
        answer += row
    return answer


def wholes(*numbers):
    """Calls that push these whole numbers, one behind another."""
    return [whole(n) for n in numbers]


def whole_row(n):
    """The ten bytes of a whole number that isn't 0, told without the program."""
    size = abs(n)
    return row_of(int(n < 0), 16383 + size.bit_length() - 1, size << (64 - size.bit_length()))


def check_refused(case, before, call, refusal):
    """The call is refused with this number alone, and told is the same before and after it."""
    got = run(*before, TOLD, call, TOLD)[-3:]
    case.assertEqual(got[1], [refusal], call)
    case.assertEqual(got[0], got[2], call)
