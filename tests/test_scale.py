"""scale (point 9)."""

import unittest
from fractions import Fraction

from helper import (ALL_BITS, FULL_ROWS, GREATEST, INFINITE, INFINITE_ROWS, LEAST, LEAST_FULL, MIRRORED, MOST_SMALL,
                    NONE_ROW, NUMBER_ROWS, ONE, SCALE, SMALL_ROWS, TOP_BIT, ZERO, ZERO_ROWS, check_outcome,
                    check_refused, free, minus, power_row, rounded_row, row_of, row_of_value, sign_in, value_of_row,
                    whole_row, wholes)

HALF_MORE = row_of(0, 16383, 3 << 62)


def steps_row(n):
    return whole_row(n) if n else ZERO


class Scale(unittest.TestCase):
    def check(self, x, y, expected, flag_sum=0, way=0):
        """The same whatever the length is; register 1 and what is behind it stay."""
        for length in range(3):
            check_outcome(self, SCALE, [x, y, whole_row(9)], (0, flag_sum, [expected, y, whole_row(9)]), way, length)

    def check_ways(self, x, y, rows, flag_sum):
        """By each way, and with the top's other sign by the way that mirrors it."""
        for way in range(4):
            self.check(x, y, rows[way], flag_sum, way)
            self.check(minus(x), y, minus(rows[way]), flag_sum, MIRRORED[way])

    def test_ordinary(self):
        self.check(whole_row(3), whole_row(2), whole_row(12))
        self.check(whole_row(3), whole_row(-1), HALF_MORE)
        self.check(whole_row(-3), whole_row(10), whole_row(-3072))
        self.check(whole_row(7), ZERO, whole_row(7))
        self.check(whole_row(7), minus(ZERO), whole_row(7))
        self.check(row_of(1, 16383, ALL_BITS), whole_row(100), row_of(1, 16483, ALL_BITS))

    def test_cut_towards_zero(self):
        for eighths in range(-40, 41):
            if eighths % 8:
                steps = abs(eighths) // 8 * (1 if eighths > 0 else -1)
                self.check(ONE, row_of_value(Fraction(eighths, 8)), power_row(steps))
        self.check(whole_row(5), row_of(0, 16383 + 2, ALL_BITS), whole_row(5 << 7))
        self.check(whole_row(5 << 7), row_of(1, 16383 + 2, ALL_BITS), whole_row(5))
        self.check(whole_row(5), LEAST_FULL, whole_row(5))
        self.check(whole_row(5), minus(LEAST_FULL), whole_row(5))

    def test_the_top_keeps_its_bits(self):
        # 64 bits, whatever the length is: check goes through all three.
        self.check(row_of(0, 16383, TOP_BIT + 1), ONE, row_of(0, 16384, TOP_BIT + 1))
        self.check(row_of(0, 16383, ALL_BITS), whole_row(-50), row_of(0, 16333, ALL_BITS))

    def test_from_end_to_end(self):
        self.check(LEAST, whole_row(32828), power_row(16383), 2)
        self.check(power_row(16383), whole_row(-32828), LEAST)
        self.check(MOST_SMALL, whole_row(16445 + 16320), row_of(0, 32765, ALL_BITS - 1), 2)
        self.check(GREATEST, whole_row(-32765), row_of(0, 1, ALL_BITS))

    def test_too_great(self):
        rows = [INFINITE, GREATEST, INFINITE, GREATEST]
        for steps in (16384, 16385, 32768, 65535, 65536, 65537, 1 << 40, (1 << 63) - 1):
            self.check_ways(ONE, whole_row(steps), rows, 40)
        self.check_ways(GREATEST, ONE, rows, 40)
        self.check_ways(LEAST_FULL, whole_row(32766), rows, 40)
        self.check_ways(LEAST, whole_row(32829), rows, 42)
        for y in (GREATEST, power_row(16383), power_row(64), power_row(1000)):
            self.check_ways(ONE, y, rows, 40)
            self.check_ways(LEAST, y, rows, 42)

    def test_too_small(self):
        rows = [ZERO, ZERO, LEAST, ZERO]
        for steps in (-16446, -16447, -32768, -65535, -65536, -65537, -(1 << 40), -(1 << 63)):
            self.check_ways(ONE, whole_row(steps), rows, 48)
        for y in (minus(GREATEST), power_row(16383, 1), power_row(64, 1), power_row(1000, 1)):
            self.check_ways(ONE, y, rows, 48)
            self.check_ways(GREATEST, y, rows, 48)
            self.check_ways(LEAST, y, rows, 50)
        self.check_ways(GREATEST, whole_row(-32830), rows, 48)
        self.check_ways(GREATEST, whole_row(-32829), [LEAST, ZERO, LEAST, ZERO], 48)
        self.check_ways(LEAST, whole_row(-1), rows, 50)

    def test_below_the_full_ones(self):
        self.check_ways(ONE, whole_row(-16445), [LEAST] * 4, 0)
        self.check_ways(HALF_MORE, whole_row(-16445), [row_of(0, 0, 2), LEAST, row_of(0, 0, 2), LEAST], 48)
        self.check_ways(row_of(0, 16383, ALL_BITS), whole_row(-16383),
                        [LEAST_FULL, MOST_SMALL, LEAST_FULL, MOST_SMALL], 48)
        self.check_ways(row_of(0, 16383, ALL_BITS - 1), whole_row(-16383), [MOST_SMALL] * 4, 0)

    def test_as_worded(self):
        for x in SMALL_ROWS + FULL_ROWS:
            for steps in (-32900, -32767, -16500, -16400, -16382, -64, -1, 0, 1, 63, 16383, 16384, 32767, 32900):
                value = value_of_row(x) * Fraction(2) ** steps
                for way in range(4):
                    expected, flag_sum = rounded_row(value, 64, way)
                    self.check(x, steps_row(steps), expected, flag_sum | (2 if x in SMALL_ROWS else 0), way)

    def test_zero(self):
        for zero in ZERO_ROWS:
            for y in ZERO_ROWS + FULL_ROWS + [minus(INFINITE)]:
                for way in range(4):
                    self.check(zero, y, zero, 0, way)
            self.check(zero, INFINITE, NONE_ROW, 1)

    def test_infinite_top(self):
        for infinite in INFINITE_ROWS:
            for y in ZERO_ROWS + FULL_ROWS + [INFINITE]:
                for way in range(4):
                    self.check(infinite, y, infinite, 0, way)
            self.check(infinite, minus(INFINITE), NONE_ROW, 1)

    def test_finite_top_and_infinity(self):
        for x in FULL_ROWS + SMALL_ROWS:
            small = 2 if x in SMALL_ROWS else 0
            for way in range(4):
                self.check(x, INFINITE, minus(INFINITE) if sign_in(x) else INFINITE, small, way)
                self.check(x, minus(INFINITE), minus(ZERO) if sign_in(x) else ZERO, small, way)

    def test_small_ones(self):
        for small in SMALL_ROWS:
            for x in FULL_ROWS + ZERO_ROWS + INFINITE_ROWS:
                self.check(x, small, x, 2)
            self.check(small, ZERO, small, 2)
            self.check(small, small, small, 2)
        self.check(LEAST, whole_row(63), LEAST_FULL, 2)

    def test_what_is_none(self):
        for row in NUMBER_ROWS + [NONE_ROW]:
            self.check(NONE_ROW, row, NONE_ROW)
            self.check(row, NONE_ROW, NONE_ROW)

    def test_refusals(self):
        check_refused(self, [], SCALE, -4)
        check_refused(self, wholes(1), SCALE, -4)
        check_refused(self, wholes(1, 2, 3) + [free(0)], SCALE, -4)
        check_refused(self, wholes(1, 2, 3) + [free(1)], SCALE, -4)


if __name__ == "__main__":
    unittest.main()
