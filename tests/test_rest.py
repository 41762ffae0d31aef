"""rest (point 11)."""

import random
import unittest
from fractions import Fraction

from helper import (ALL_BITS, ENDS, FULL_ROWS, GREATEST, INFINITE_ROWS, KIND, LEAST, LEAST_FULL, MOST_SMALL, NONE_ROW,
                    NUMBER_ROWS, ONE, SMALL_ROWS, TOLD, TOP_BIT, ZERO, ZERO_ROWS, against, check_outcome,
                    check_refused, compare, do, free, minus, power_row, rest, row_of, row_of_value, run, sign_in,
                    told_of, value_of_row, whole_row, wholes)

CUT, NEAREST = 0, 1


def by_words(x, y, kind):
    """The row that is left of x, and q's lowest three bits."""
    value, part = value_of_row(x), value_of_row(y)
    quotient = value / part
    q = round(quotient) if kind == NEAREST else int(quotient)
    return row_of_value(value - part * q, sign_in(x)), abs(q) % 8


class Rest(unittest.TestCase):
    def check(self, kind, x, y, left, low_bits, flag_sum=0):
        """The same by every way and length; register 1 and what is behind it stay."""
        for way in range(4):
            for length in range(3):
                check_outcome(self, rest(kind), [x, y, whole_row(9)], (low_bits, flag_sum, [left, y, whole_row(9)]),
                              way, length)

    def check_both(self, x, y, left, low_bits, flag_sum=0):
        for kind in (CUT, NEAREST):
            self.check(kind, x, y, left, low_bits, flag_sum)

    def check_signs(self, kind, x, y, left, low_bits):
        """All pairs of signs: y's counts for nothing, x's for what is left alone."""
        for divisor in (y, minus(y)):
            self.check(kind, x, divisor, left, low_bits)
            self.check(kind, minus(x), divisor, minus(left), low_bits)

    def test_ordinary(self):
        self.check_signs(CUT, whole_row(17), whole_row(5), whole_row(2), 3)
        self.check_signs(CUT, whole_row(18), whole_row(5), whole_row(3), 3)
        self.check_signs(CUT, whole_row(19), whole_row(5), whole_row(4), 3)
        self.check_signs(NEAREST, whole_row(17), whole_row(5), whole_row(2), 3)
        self.check_signs(NEAREST, whole_row(18), whole_row(5), whole_row(-2), 4)
        self.check_signs(NEAREST, whole_row(19), whole_row(5), whole_row(-1), 4)

    def test_broken_numbers(self):
        self.check_signs(CUT, row_of(0, 16384, 5 << 61), row_of(0, 16382, 3 << 62), power_row(-2), 3)
        self.check_signs(NEAREST, row_of(0, 16384, 11 << 60), row_of(0, 16382, 3 << 62), minus(power_row(-2)), 4)

    def test_comes_to_zero(self):
        for kind in (CUT, NEAREST):
            self.check_signs(kind, whole_row(15), whole_row(5), ZERO, 3)
            self.check_signs(kind, whole_row(5), whole_row(5), ZERO, 1)
            self.check_signs(kind, GREATEST, GREATEST, ZERO, 1)
            self.check_signs(kind, ZERO, whole_row(5), ZERO, 0)

    def test_ties(self):
        # 5 by 2 lies between 2 and 3, 7 by 2 between 3 and 4: the even one is taken.
        self.check_signs(NEAREST, whole_row(5), whole_row(2), ONE, 2)
        self.check_signs(NEAREST, whole_row(7), whole_row(2), minus(ONE), 4)
        self.check_signs(NEAREST, ONE, whole_row(2), ONE, 0)
        self.check_signs(NEAREST, whole_row(3), whole_row(2), minus(ONE), 2)
        self.check_signs(NEAREST, whole_row(15), whole_row(2), minus(ONE), 0)
        self.check_signs(NEAREST, whole_row(17), whole_row(2), ONE, 0)
        self.check_signs(CUT, whole_row(5), whole_row(2), ONE, 2)
        self.check_signs(CUT, whole_row(7), whole_row(2), ONE, 3)

    def test_lowest_three_bits(self):
        for q in range(1, 40):
            self.check_signs(CUT, whole_row(10 * q + 3), whole_row(10), whole_row(3), q % 8)
            self.check_signs(NEAREST, whole_row(10 * q + 3), whole_row(10), whole_row(3), q % 8)
            self.check_signs(NEAREST, whole_row(10 * q - 3), whole_row(10), whole_row(-3), q % 8)

    def test_less(self):
        self.check_signs(CUT, whole_row(4), whole_row(5), whole_row(4), 0)
        self.check_signs(NEAREST, whole_row(4), whole_row(5), whole_row(-1), 1)
        self.check_signs(NEAREST, whole_row(2), whole_row(5), whole_row(2), 0)
        self.check_signs(CUT, LEAST_FULL, GREATEST, LEAST_FULL, 0)
        self.check_signs(NEAREST, LEAST_FULL, GREATEST, LEAST_FULL, 0)
        self.check_signs(NEAREST, row_of(0, 16382, TOP_BIT + 1), ONE, row_of(1, 16381, ALL_BITS - 1), 1)

    def test_far_above(self):
        # 2^k by 3 leaves 1 or 2, as k is even or odd, and 2 is 3 less 1.
        for k in (62, 63, 64, 65, 66, 127, 128, 1000, 16383):
            q = (2 ** k) // 3
            left = 2 ** k % 3
            self.check_signs(CUT, power_row(k), whole_row(3), whole_row(left), q % 8)
            near, more = (whole_row(1), 0) if left == 1 else (whole_row(-1), 1)
            self.check_signs(NEAREST, power_row(k), whole_row(3), near, (q + more) % 8)

    def test_from_end_to_end(self):
        for kind in (CUT, NEAREST):
            for y in (LEAST_FULL, row_of(0, 1, TOP_BIT + 1), row_of(0, 1, ALL_BITS), whole_row(7)):
                left, low_bits = by_words(GREATEST, y, kind)
                self.check(kind, GREATEST, y, left, low_bits)
            for y in (LEAST, row_of(0, 0, 3), MOST_SMALL):
                left, low_bits = by_words(GREATEST, y, kind)
                self.check(kind, GREATEST, y, left, low_bits, 2)

    def test_as_worded(self):
        source = random.Random(11)
        for turn_count in range(60):
            x = row_of(source.getrandbits(1), 16383 + source.randrange(80), source.getrandbits(64) | TOP_BIT)
            y = row_of(source.getrandbits(1), 16383 + source.randrange(20), source.getrandbits(64) | TOP_BIT)
            for kind in (CUT, NEAREST):
                left, low_bits = by_words(x, y, kind)
                self.check(kind, x, y, left, low_bits)

    def test_all_bits_of_what_is_left(self):
        # Nothing is rounded, whatever the length is: check goes through all three.
        x = row_of(0, 16384, ALL_BITS)
        self.assertEqual(by_words(x, power_row(70), CUT)[0], x)
        self.check(CUT, x, power_row(70), x, 0)
        self.check(NEAREST, x, power_row(1), row_of_value(value_of_row(x) - 4), 2)

    def test_small_ones(self):
        for small in SMALL_ROWS:
            self.check_both(small, ONE, small, 0, 2)
            self.check_both(small, small, minus(ZERO) if sign_in(small) else ZERO, 1, 2)
            for zero in ZERO_ROWS:
                self.check_both(zero, small, zero, 0, 2)
        self.check_both(LEAST_FULL, MOST_SMALL, LEAST, 1, 2)
        self.check_both(row_of(0, 0, 7), row_of(1, 0, 3), LEAST, 2, 2)
        self.check(NEAREST, row_of(0, 0, 8), row_of(0, 0, 3), minus(LEAST), 3, 2)

    def test_a_small_result_sets_nothing(self):
        self.check(CUT, row_of(0, 1, TOP_BIT + 1), LEAST_FULL, LEAST, 1)
        self.check(NEAREST, row_of(0, 1, TOP_BIT + 1), LEAST_FULL, LEAST, 1)

    def test_infinite_x(self):
        for x in INFINITE_ROWS:
            for y in NUMBER_ROWS:
                self.check_both(x, y, NONE_ROW, 0, 1)

    def test_by_zero(self):
        for x in NUMBER_ROWS:
            for zero in ZERO_ROWS:
                self.check_both(x, zero, NONE_ROW, 0, 1)

    def test_infinite_y(self):
        for y in INFINITE_ROWS:
            for x in FULL_ROWS + ZERO_ROWS:
                self.check_both(x, y, x, 0)
            for x in SMALL_ROWS:
                self.check_both(x, y, x, 0, 2)

    def test_what_is_none(self):
        for row in NUMBER_ROWS + [NONE_ROW]:
            self.check_both(NONE_ROW, row, NONE_ROW, 0)
            self.check_both(row, NONE_ROW, NONE_ROW, 0)

    def test_what_is_left_is_reckoned_with(self):
        # What is left has the other sign than x here; calls behind it have to see it so.
        got = run(*wholes(5, -19), rest(NEAREST), against(1), compare(1, 1), KIND, do(0, 1), TOLD)
        self.assertEqual(got[2:6], [[4], [1], [0], [4]])
        self.assertEqual(got[-1], told_of(0, 2, 0, [whole_row(6), whole_row(5)]))

    def test_refusals(self):
        for before in ([], wholes(5), wholes(3, 17)):
            for wrong in (-1, 2, 3) + ENDS:
                check_refused(self, before, rest(wrong), -2)
        for kind in (CUT, NEAREST):
            check_refused(self, [], rest(kind), -4)
            check_refused(self, wholes(5), rest(kind), -4)
            check_refused(self, wholes(1, 2, 3) + [free(0)], rest(kind), -4)
            check_refused(self, wholes(1, 2, 3) + [free(1)], rest(kind), -4)


class ByWords(unittest.TestCase):
    def test_the_measure_itself(self):
        self.assertEqual(by_words(whole_row(-7), whole_row(2), NEAREST), (row_of_value(Fraction(1)), 4))
        self.assertEqual(by_words(whole_row(-7), whole_row(2), CUT), (row_of_value(Fraction(-1)), 3))


if __name__ == "__main__":
    unittest.main()
