"""split (point 10)."""

import unittest
from fractions import Fraction

from helper import (ALL_BITS, EMPTY_ROW, FULL_ROWS, GREATEST, INFINITE, INFINITE_ROWS, LEAST, LEAST_FULL, MOST_SMALL,
                    NONE_ROW, ONE, SMALL_ROWS, SPLIT, TOLD, TOP_BIT, ZERO, ZERO_ROWS, check_outcome, check_refused,
                    free, lead, minus, outcome, row_of, run, sign_in, told_of, turn, value_of_row, whole_row, wholes)


class Split(unittest.TestCase):
    def check(self, x, exponent, part, flag_sum=0):
        """The same by every way and length: the part is the top, the exponent at 1, and the others follow."""
        for way in range(4):
            for length in range(3):
                check_outcome(self, SPLIT, [x, whole_row(9), whole_row(8)],
                              (0, flag_sum, [part, exponent, whole_row(9), whole_row(8)]), way, length)

    def test_ordinary(self):
        self.check(whole_row(12), whole_row(3), row_of(0, 16383, 3 << 62))
        self.check(whole_row(-12), whole_row(3), row_of(1, 16383, 3 << 62))
        self.check(row_of(0, 16380, 5 << 61), whole_row(-3), row_of(0, 16383, 5 << 61))
        self.check(row_of(1, 16381, ALL_BITS), whole_row(-2), row_of(1, 16383, ALL_BITS))
        self.check(whole_row(1 << 62), whole_row(62), ONE)

    def test_exponent_zero(self):
        self.check(ONE, ZERO, ONE)
        self.check(minus(ONE), ZERO, minus(ONE))
        self.check(row_of(1, 16383, ALL_BITS), ZERO, row_of(1, 16383, ALL_BITS))

    def test_the_ends(self):
        self.check(GREATEST, whole_row(16383), row_of(0, 16383, ALL_BITS))
        self.check(minus(GREATEST), whole_row(16383), row_of(1, 16383, ALL_BITS))
        self.check(LEAST_FULL, whole_row(-16382), ONE)
        self.check(minus(LEAST_FULL), whole_row(-16382), minus(ONE))
        self.check(row_of(0, 1, ALL_BITS), whole_row(-16382), row_of(0, 16383, ALL_BITS))

    def test_small_ones(self):
        self.check(LEAST, whole_row(-16445), ONE, 2)
        self.check(minus(LEAST), whole_row(-16445), minus(ONE), 2)
        self.check(row_of(0, 0, 3), whole_row(-16444), row_of(0, 16383, 3 << 62), 2)
        self.check(MOST_SMALL, whole_row(-16383), row_of(0, 16383, ALL_BITS - 1), 2)
        self.check(row_of(1, 0, 1 << 62), whole_row(-16383), minus(ONE), 2)

    def test_the_two_make_the_number(self):
        for row in FULL_ROWS + SMALL_ROWS + [row_of(0, 16383 + k, TOP_BIT + 77) for k in range(1, 200, 17)]:
            rows = outcome(SPLIT, [row])[2]
            value = value_of_row(row)
            self.assertEqual(value_of_row(rows[1]), lead(value))
            self.assertEqual(value_of_row(rows[0]) * Fraction(2) ** lead(value), value)
            self.assertEqual(sign_in(rows[0]), sign_in(row))
            self.assertEqual(rows[2:], [EMPTY_ROW] * 6)

    def test_zeros(self):
        for zero in ZERO_ROWS:
            self.check(zero, minus(INFINITE), zero, 4)

    def test_infinities(self):
        for infinite in INFINITE_ROWS:
            self.check(infinite, INFINITE, infinite)

    def test_what_is_none(self):
        self.check(NONE_ROW, NONE_ROW, NONE_ROW)

    def test_into_the_last_place(self):
        self.assertEqual(run(*wholes(1, 2, 3, 4, 5, 6, 8), SPLIT, TOLD)[-2:],
                         [[0], told_of(0, 2, 0, [ONE] + [whole_row(n) for n in (3, 6, 5, 4, 3, 2, 1)])])

    def test_over_a_gap(self):
        self.assertEqual(run(*wholes(1, 2, 8), free(1), SPLIT, TOLD)[-2:],
                         [[0], told_of(0, 2, 0, [ONE, whole_row(3), EMPTY_ROW, ONE])])

    def test_refusals(self):
        full = wholes(*range(1, 9))
        check_refused(self, [], SPLIT, -4)
        check_refused(self, wholes(1, 2) + [free(0)], SPLIT, -4)
        check_refused(self, full, SPLIT, -5)
        check_refused(self, full + [free(3)], SPLIT, -5)
        check_refused(self, wholes(1, 2) + [turn(1)], SPLIT, -5)

    def test_empty_counts_before_full(self):
        check_refused(self, wholes(*range(1, 9)) + [free(0)], SPLIT, -4)
        check_refused(self, wholes(1) + [turn(1)], SPLIT, -4)

    def test_a_refusal_sets_no_flags(self):
        seven = wholes(*range(1, 8))
        for row in (ZERO, LEAST):
            check_refused(self, seven + [[4, 10] + row], SPLIT, -5)


if __name__ == "__main__":
    unittest.main()
