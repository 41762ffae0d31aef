"""root and near (point 8)."""

import math
import unittest
from fractions import Fraction

from helper import (ALL_BITS, EMPTY_ROW, FULL_ROWS, GREATEST, INFINITE, INFINITE_ROWS, LEAST, LEAST_FULL, MOST_SMALL,
                    NEAR, NONE_ROW, ONE, PLACES, ROOT, SMALL_ROWS, TOP_BIT, ZERO, ZERO_ROWS, check_outcome,
                    check_refused, free, lead, made_whole, minus, outcome, power_row, row_of, row_of_value, sign_in,
                    value_of_row, whole_row, wholes)


def root_by_words(value, places, way):
    """The root of a fraction above 0, rounded: its row and its flags; no root is too great or too small."""
    unit = Fraction(2) ** (lead(value) // 2 - places + 1)
    low = math.isqrt(int(value / unit ** 2))
    if (low * unit) ** 2 == value:
        return row_of_value(low * unit), 0
    middle = (low + Fraction(1, 2)) * unit
    assert middle ** 2 != value
    up = way == 2 or way == 0 and middle ** 2 < value
    return row_of_value((low + int(up)) * unit), 32


class Root(unittest.TestCase):
    def check(self, row, expected, flag_sum):
        """The same by every way and length."""
        for way in range(4):
            for length in range(3):
                check_outcome(self, ROOT, [row, whole_row(5)], (0, flag_sum, [expected, whole_row(5)]), way, length)

    def test_squares(self):
        for n in (1, 2, 3, 12, 1000, 4095, (1 << 24) - 1):
            self.check(whole_row(n * n), whole_row(n), 0)
        self.check(power_row(-2), power_row(-1), 0)
        self.check(power_row(16382), power_row(8191), 0)
        self.check(power_row(-16382), power_row(-8191), 0)
        self.check(row_of(0, 16384, 9 << 60), row_of(0, 16383, 3 << 62), 0)

    def test_the_root_of_two(self):
        # The bits of the root, one hundred of them, cut to each length.
        bits = math.isqrt(2 << 198)
        for length, places in enumerate(PLACES):
            cut = bits >> (100 - places)
            nearer = bits >> (99 - places) & 1
            low, high = [row_of(0, 16383, part << (64 - places)) for part in (cut, cut + 1)]
            for way, expected in enumerate((high if nearer else low, low, high, low)):
                check_outcome(self, ROOT, [whole_row(2)], (0, 32, [expected]), way, length)

    def test_squares_that_the_length_is_too_short_for(self):
        n = (1 << 31) + 1
        for way, expected in enumerate((1 << 31, 1 << 31, (1 << 31) + 256, 1 << 31)):
            check_outcome(self, ROOT, [whole_row(n * n)], (0, 32, [whole_row(expected)]), way, 0)
        for way in range(4):
            check_outcome(self, ROOT, [whole_row(n * n)], (0, 0, [whole_row(n)]), way, 1)

    def test_no_squares_as_worded(self):
        rows = [LEAST_FULL, GREATEST, row_of(0, 1, ALL_BITS), whole_row(3), row_of(0, 16384, ALL_BITS),
                row_of(0, 16383, ALL_BITS), row_of(0, 16383, TOP_BIT + 1), row_of(0, 16384, TOP_BIT + 1),
                row_of(0, 16382, 0xDEADBEEFDEADBEEF), row_of(0, 32765, ALL_BITS - 1), row_of(0, 2, 3 << 62),
                row_of(0, 9000, 0xFEDCBA9876543210), row_of(0, 20001, 0x8000000000000003)]
        for row in rows:
            self.check_as_worded(row, 0)

    def test_small_ones(self):
        for row in [row for row in SMALL_ROWS if not sign_in(row)] + [row_of(0, 0, 2), row_of(0, 0, 3), MOST_SMALL]:
            self.check_as_worded(row, 2)
        self.assertEqual(outcome(ROOT, [row_of(0, 0, 2)])[2][0], power_row(-8222))

    def check_as_worded(self, row, small):
        for way in range(4):
            for length, places in enumerate(PLACES):
                expected, flag_sum = root_by_words(value_of_row(row), places, way)
                check_outcome(self, ROOT, [row], (0, flag_sum | small, [expected]), way, length)

    def test_just_below_and_above_squares(self):
        # Roots that lie so near a whole number of units that only what is left behind the last bit tells.
        ones = row_of(0, 16382, ALL_BITS)
        for way, expected in enumerate((ones, ones, ONE, ones)):
            check_outcome(self, ROOT, [ones], (0, 32, [expected]), way)
        above = row_of(0, 16383, TOP_BIT + 1)
        for way, expected in enumerate((ONE, ONE, above, ONE)):
            check_outcome(self, ROOT, [above], (0, 32, [expected]), way)

    def test_zeros_stay(self):
        for row in ZERO_ROWS:
            self.check(row, row, 0)

    def test_below_zero(self):
        for row in FULL_ROWS + SMALL_ROWS + INFINITE_ROWS:
            if sign_in(row):
                self.check(row, NONE_ROW, 1)

    def test_infinity_and_none(self):
        self.check(INFINITE, INFINITE, 0)
        self.check(NONE_ROW, NONE_ROW, 0)

    def test_refusals(self):
        check_refused(self, [], ROOT, -4)
        check_refused(self, wholes(4, 9) + [free(0)], ROOT, -4)


class Near(unittest.TestCase):
    def check_ways(self, row, rows, flag_sum):
        """By each way, the same by every length."""
        for way in range(4):
            for length in range(3):
                check_outcome(self, NEAR, [row, whole_row(5)], (0, flag_sum, [rows[way], whole_row(5)]), way, length)

    def test_halves(self):
        none, one, two, three = ZERO, ONE, whole_row(2), whole_row(3)
        self.check_ways(power_row(-1), [none, none, one, none], 32)
        self.check_ways(row_of(0, 16383, 3 << 62), [two, one, two, one], 32)
        self.check_ways(row_of(0, 16384, 5 << 61), [two, two, three, two], 32)
        self.check_ways(minus(power_row(-1)), [minus(none), minus(one), minus(none), minus(none)], 32)
        self.check_ways(row_of(1, 16383, 3 << 62), [minus(two), minus(two), minus(one), minus(one)], 32)
        self.check_ways(row_of(1, 16384, 5 << 61), [minus(two), minus(three), minus(two), minus(two)], 32)

    def test_beside_halves(self):
        self.check_ways(row_of(0, 16382, TOP_BIT + 1), [ONE, ZERO, ONE, ZERO], 32)
        self.check_ways(row_of(0, 16381, ALL_BITS), [ZERO, ZERO, ONE, ZERO], 32)
        self.check_ways(row_of(1, 16382, TOP_BIT + 1), [minus(ONE), minus(ONE), minus(ZERO), minus(ZERO)], 32)
        self.check_ways(row_of(1, 16381, ALL_BITS), [minus(ZERO), minus(ONE), minus(ZERO), minus(ZERO)], 32)

    def test_great_halves(self):
        # The least bit that is still broken, of a number that needs all 64, whatever the length.
        low, high = whole_row((1 << 63) - 1), power_row(63)
        self.check_ways(row_of(0, 16383 + 62, ALL_BITS), [high, low, high, low], 32)
        self.check_ways(row_of(1, 16383 + 62, ALL_BITS), [minus(high), minus(high), minus(low), minus(low)], 32)
        low, high = power_row(62), whole_row((1 << 62) + 1)
        self.check_ways(row_of(0, 16383 + 62, TOP_BIT + 1), [low, low, high, low], 32)

    def test_whole_already(self):
        for row in (ONE, whole_row(-1), whole_row(12345), whole_row((1 << 63) - 1), row_of(0, 16383 + 63, ALL_BITS),
                    row_of(1, 16383 + 63, ALL_BITS), row_of(0, 16383 + 64, ALL_BITS), power_row(100), GREATEST,
                    minus(GREATEST)):
            self.check_ways(row, [row] * 4, 0)

    def test_small_ones(self):
        for row in SMALL_ROWS:
            if sign_in(row):
                self.check_ways(row, [minus(ZERO), minus(ONE), minus(ZERO), minus(ZERO)], 34)
            else:
                self.check_ways(row, [ZERO, ZERO, ONE, ZERO], 34)

    def test_least_full(self):
        self.check_ways(LEAST_FULL, [ZERO, ZERO, ONE, ZERO], 32)
        self.check_ways(minus(LEAST_FULL), [minus(ZERO), minus(ONE), minus(ZERO), minus(ZERO)], 32)

    def test_zeros_infinities_and_none_stay(self):
        for row in ZERO_ROWS + INFINITE_ROWS + [NONE_ROW]:
            self.check_ways(row, [row] * 4, 0)

    def test_as_worded(self):
        for exponent in range(16380, 16450, 3):
            for bits in (TOP_BIT, TOP_BIT + 1, ALL_BITS, 0xAAAAAAAAAAAAAAAA, 0xD555555555555555, 0xF0F0F0F0F0F0F0F0):
                for minus_sign in (0, 1):
                    row = row_of(minus_sign, exponent, bits)
                    value = value_of_row(row)
                    rows = [row_of_value(Fraction(made_whole(value, way)), minus_sign) for way in range(4)]
                    self.check_ways(row, rows, 0 if value.denominator == 1 else 32)

    def test_refusals(self):
        check_refused(self, [], NEAR, -4)
        check_refused(self, wholes(4, 9) + [free(0)], NEAR, -4)


class TopAlone(unittest.TestCase):
    def test_nothing_else_changes(self):
        rows = [whole_row(n) for n in (9, 2, 3, 4, 5, 6, 7)] + [LEAST]
        self.assertEqual(outcome(ROOT, rows), ([0], 0, [whole_row(3)] + rows[1:]))
        self.assertEqual(outcome(NEAR, rows), ([0], 0, rows))
        self.assertEqual(outcome(ROOT, [ONE])[2][1:], [EMPTY_ROW] * 7)


if __name__ == "__main__":
    unittest.main()
