"""bits (point 4, and what Numbers says of rounding and its flags)."""

import math
import struct
import unittest
from fractions import Fraction

from helper import (ALL_BITS, BITS, MIRRORED, NONE_ROW, STORE, TOLD, TOP_BIT, check_refused, control, double, flags,
                    load, row_of, run, told_of, whole, whole_row, wholes)

INFINITE = 0x7FF0000000000000
GREATEST = 0x7FEFFFFFFFFFFFFF
LEAST_FULL = 0x0010000000000000
MINUS = 1 << 63
ONE = 0x3FF0000000000000


def bits_of_float(value):
    return int.from_bytes(struct.pack("<d", value), "little")


def nearest_float(value):
    try:
        return float(value)
    except OverflowError:
        return math.inf if value > 0 else -math.inf


def float_by_way(value, way):
    """The machine's double for a fraction that isn't 0, by the way."""
    near = nearest_float(value)
    exact = not math.isinf(near) and Fraction(near) == value
    above = near == math.inf or near != -math.inf and Fraction(near) > value
    if way == 0 or exact:
        return near
    up = way == 2 or way == 3 and value < 0
    if up:
        got = near if above else math.nextafter(near, math.inf)
    else:
        got = math.nextafter(near, -math.inf) if above else near
    return math.copysign(got, 1 if value > 0 else -1)


def flags_by_way(value, way):
    """The flags by what the rounding makes of the value moved to where doubles have all their places."""
    lead = abs(value).numerator.bit_length() - abs(value).denominator.bit_length()
    full = Fraction(float_by_way(value * Fraction(2) ** -lead, way)) * Fraction(2) ** lead
    if abs(full) >= Fraction(2) ** 1024:
        return 40
    got = Fraction(float_by_way(value, way))
    if got == value:
        return 0
    return 48 if abs(full) < Fraction(2) ** -1022 else 32


class Bits(unittest.TestCase):
    def check(self, row, way, bits, flag_sum):
        for length in range(3):
            got = run(control(way, length), load(row), BITS, flags())
            self.assertEqual(got[2:], [[0, bits], [flag_sum]], (row, way))

    def check_ways(self, exponent, size, doubles, flag_sums):
        """By each way, and the same with a minus by the mirrored ways."""
        for way in range(4):
            self.check(row_of(0, exponent, size), way, doubles[way], flag_sums[way])
            self.check(row_of(1, exponent, size), MIRRORED[way], MINUS + doubles[way], flag_sums[way])

    def check_all_same(self, exponent, size, bits, flag_sum):
        self.check_ways(exponent, size, [bits] * 4, [flag_sum] * 4)

    def test_exact(self):
        self.check_all_same(0, 0, 0, 0)
        self.check_all_same(16383, TOP_BIT, ONE, 0)
        self.check_all_same(16383, TOP_BIT + (1 << 11), ONE + 1, 0)
        self.check_all_same(16384, 3 << 62, 0x4008000000000000, 0)
        self.check_all_same(16383 + 1023, ALL_BITS - 0x7FF, GREATEST, 0)
        self.check_all_same(16383 - 1022, TOP_BIT, LEAST_FULL, 0)

    def test_infinite_and_none(self):
        self.check_all_same(32767, TOP_BIT, INFINITE, 0)
        for way in range(4):
            self.check(NONE_ROW, way, 0x7FF8000000000000, 0)
            self.check(row_of(0, 32767, TOP_BIT + 1), way, 0x7FF8000000000000, 0)

    def test_ties(self):
        self.check_ways(16383, TOP_BIT + (1 << 10), [ONE, ONE, ONE + 1, ONE], [32] * 4)
        self.check_ways(16383, TOP_BIT + (3 << 10), [ONE + 2, ONE + 1, ONE + 2, ONE + 1], [32] * 4)

    def test_beside_ties(self):
        self.check_ways(16383, TOP_BIT + (1 << 10) + 1, [ONE + 1, ONE, ONE + 1, ONE], [32] * 4)
        self.check_ways(16383, TOP_BIT + (3 << 10) - 1, [ONE + 1, ONE + 1, ONE + 2, ONE + 1], [32] * 4)
        self.check_ways(16383, TOP_BIT + 1, [ONE, ONE, ONE + 1, ONE], [32] * 4)

    def test_up_into_the_next_power(self):
        two = 0x4000000000000000
        self.check_ways(16383, ALL_BITS, [two, two - 1, two, two - 1], [32] * 4)
        self.check_ways(16383, ALL_BITS - 0x3FF, [two, two - 1, two, two - 1], [32] * 4)
        self.check_ways(16383, ALL_BITS - 0x400, [two - 1, two - 1, two, two - 1], [32] * 4)

    def test_too_great(self):
        outcome = [INFINITE, GREATEST, INFINITE, GREATEST]
        self.check_ways(16383 + 1024, TOP_BIT, outcome, [40] * 4)
        self.check_ways(16383 + 1024, ALL_BITS, outcome, [40] * 4)
        self.check_ways(32766, ALL_BITS, outcome, [40] * 4)

    def test_just_below_too_great(self):
        outcome = [INFINITE, GREATEST, INFINITE, GREATEST]
        self.check_ways(16383 + 1023, ALL_BITS, outcome, [40, 32, 40, 32])
        self.check_ways(16383 + 1023, ALL_BITS - 0x3FF, outcome, [40, 32, 40, 32])
        self.check_ways(16383 + 1023, ALL_BITS - 0x400, [GREATEST, GREATEST, INFINITE, GREATEST], [32, 32, 40, 32])

    def test_below_the_full_ones_exact(self):
        self.check_all_same(16383 - 1074, TOP_BIT, 1, 0)
        self.check_all_same(16383 - 1073, 3 << 62, 3, 0)
        self.check_all_same(16383 - 1023, TOP_BIT, 1 << 51, 0)
        self.check_all_same(16383 - 1023, ALL_BITS - 0xFFF, LEAST_FULL - 1, 0)

    def test_below_the_full_ones_not_exact(self):
        self.check_ways(16383 - 1073, 5 << 61, [2, 2, 3, 2], [48] * 4)
        self.check_ways(16383 - 1073, 7 << 61, [4, 3, 4, 3], [48] * 4)
        self.check_ways(16383 - 1023, TOP_BIT + 1, [1 << 51, 1 << 51, (1 << 51) + 1, 1 << 51], [48] * 4)

    def test_just_below_the_full_ones(self):
        full = LEAST_FULL
        # One place more than a double has there, and it stays below with all its places: too small, though rounded up.
        self.check_ways(16383 - 1023, ALL_BITS - 0x7FF, [full, full - 1, full, full - 1], [48] * 4)
        # Nearer than that, it reaches 2^-1022 with all its places: not too small where it is rounded up.
        self.check_ways(16383 - 1023, ALL_BITS, [full, full - 1, full, full - 1], [32, 48, 32, 48])
        self.check_ways(16383 - 1023, ALL_BITS - 0x3FF, [full, full - 1, full, full - 1], [32, 48, 32, 48])
        self.check_ways(16383 - 1023, ALL_BITS - 0x400, [full, full - 1, full, full - 1], [48, 48, 32, 48])

    def test_just_above_the_least_full_one(self):
        self.check_ways(16383 - 1022, TOP_BIT + 1, [LEAST_FULL, LEAST_FULL, LEAST_FULL + 1, LEAST_FULL], [32] * 4)

    def test_to_zero(self):
        self.check_ways(16383 - 1075, TOP_BIT, [0, 0, 1, 0], [48] * 4)
        self.check_ways(16383 - 1075, TOP_BIT + 1, [1, 0, 1, 0], [48] * 4)
        self.check_ways(16383 - 1076, ALL_BITS, [0, 0, 1, 0], [48] * 4)
        self.check_ways(1, TOP_BIT, [0, 0, 1, 0], [48] * 4)

    def test_small_numbers(self):
        for size in (1, 1 << 62, TOP_BIT - 1):
            self.check_ways(0, size, [0, 0, 1, 0], [48] * 4)

    def test_against_the_machine(self):
        bits = 3
        for k in range(600):
            bits = (bits * 6364136223846793005 + 1442695040888963407) % 2 ** 64
            exponent = 16383 + (k - 1090, 1000 + k % 26, -1023, k - 300)[k % 4]
            size = TOP_BIT | bits >> (k * 7 % 64) << (k * 5 % 64) & ALL_BITS
            sign = bits >> 40 & 1
            value = Fraction(size) * Fraction(2) ** (exponent - 16446) * (-1 if sign else 1)
            for way in range(4):
                self.check(row_of(sign, exponent, size), way, bits_of_float(float_by_way(value, way)),
                           flags_by_way(value, way))

    def test_what_double_pushed_comes_back(self):
        for told in (0, 1, LEAST_FULL - 1, LEAST_FULL, ONE, GREATEST, INFINITE):
            for way in range(4):
                for minus in (0, MINUS):
                    got = run(control(way, 0), double(told + minus), flags(1), BITS, flags())
                    self.assertEqual(got[3:], [[0, told + minus], [0]])

    def test_pops_and_keeps_flags(self):
        got = run(control(1, 0), whole(9), double(1), STORE, load(row_of(0, 16383, ALL_BITS)), BITS, TOLD)
        self.assertEqual(got[-2:], [[0, 0x3FFFFFFFFFFFFFFF], told_of(1, 0, 34, [whole_row(9)])])

    def test_refused_when_empty(self):
        check_refused(self, [], BITS, -4)
        check_refused(self, [control(3, 1), *wholes(1), BITS], BITS, -4)


if __name__ == "__main__":
    unittest.main()
