"""int (point 5)."""

import unittest
from fractions import Fraction

from helper import (ALL_BITS, ENDS, NONE_ROW, TOLD, TOP_BIT, check_refused, control, double, flags, load, made_whole,
                    row_of, run, to_int, told_of, whole, whole_row, wholes)

NOTHING = [0, 1 << 63]


class Int(unittest.TestCase):
    def check(self, row, way, answer, flag_sum):
        """The same by way itself and by 4 with the way set, and by way itself with another one set."""
        for calls in ([load(row), to_int(way)], [control(way, 0), load(row), to_int(4)],
                      [control((way + 1) % 4, 1), load(row), to_int(way)]):
            got = run(*calls, flags())
            self.assertEqual(got[-2:], [answer, [flag_sum]], (row, way))

    def check_ways(self, row, numbers, flag_sum):
        for way in range(4):
            self.check(row, way, [0, numbers[way] % 2 ** 64], flag_sum)

    def test_whole_ones_stay(self):
        for n in (1, -1, 2, 7, -1000, 2 ** 62, 2 ** 63 - 1, -2 ** 63 + 1, -2 ** 63, 2 ** 53 + 1):
            self.check_ways(whole_row(n), [n] * 4, 0)

    def test_zeros(self):
        self.check_ways(row_of(0, 0, 0), [0] * 4, 0)
        self.check_ways(row_of(1, 0, 0), [0] * 4, 0)

    def test_halves(self):
        self.check_ways(row_of(0, 16382, TOP_BIT), [0, 0, 1, 0], 32)
        self.check_ways(row_of(1, 16382, TOP_BIT), [0, -1, 0, 0], 32)
        self.check_ways(row_of(0, 16383, 3 << 62), [2, 1, 2, 1], 32)
        self.check_ways(row_of(1, 16383, 3 << 62), [-2, -2, -1, -1], 32)
        self.check_ways(row_of(0, 16384, 5 << 61), [2, 2, 3, 2], 32)
        self.check_ways(row_of(1, 16384, 5 << 61), [-2, -3, -2, -2], 32)

    def test_beside_halves(self):
        self.check_ways(row_of(0, 16382, TOP_BIT + 1), [1, 0, 1, 0], 32)
        self.check_ways(row_of(1, 16382, TOP_BIT + 1), [-1, -1, 0, 0], 32)
        self.check_ways(row_of(0, 16381, ALL_BITS), [0, 0, 1, 0], 32)
        self.check_ways(row_of(1, 16381, ALL_BITS), [0, -1, 0, 0], 32)
        self.check_ways(row_of(0, 16384, (5 << 61) + 1), [3, 2, 3, 2], 32)
        self.check_ways(row_of(0, 16383, (3 << 62) - 1), [1, 1, 2, 1], 32)

    def test_small_numbers(self):
        for bits in (1, 1 << 62, TOP_BIT - 1):
            self.check_ways(row_of(0, 0, bits), [0, 0, 1, 0], 32)
            self.check_ways(row_of(1, 0, bits), [0, -1, 0, 0], 32)
        self.check_ways(row_of(1, 1, TOP_BIT), [0, -1, 0, 0], 32)

    def test_the_ends(self):
        for way in range(4):
            self.check(row_of(1, 16446, TOP_BIT), way, [0, 1 << 63], 0)
            self.check(row_of(0, 16446, TOP_BIT), way, NOTHING, 1)
            self.check(row_of(1, 16446, TOP_BIT + 1), way, NOTHING, 1)
            self.check(row_of(0, 16445, ALL_BITS - 1), way, [0, 2 ** 63 - 1], 0)

    def test_what_rounds_to_the_ends(self):
        above = row_of(0, 16445, ALL_BITS)
        self.check(above, 0, NOTHING, 1)
        self.check(above, 1, [0, 2 ** 63 - 1], 32)
        self.check(above, 2, NOTHING, 1)
        self.check(above, 3, [0, 2 ** 63 - 1], 32)
        below = row_of(1, 16445, ALL_BITS)
        self.check(below, 0, [0, 1 << 63], 32)
        self.check(below, 1, [0, 1 << 63], 32)
        self.check(below, 2, [0, 2 ** 63 + 1], 32)
        self.check(below, 3, [0, 2 ** 63 + 1], 32)

    def test_nothing_could_come_of_it(self):
        for way in range(4):
            self.check(NONE_ROW, way, NOTHING, 1)
            for sign in (0, 1):
                self.check(row_of(sign, 32767, TOP_BIT), way, NOTHING, 1)
                self.check(row_of(sign, 16447, TOP_BIT), way, NOTHING, 1)
                self.check(row_of(sign, 32766, ALL_BITS), way, NOTHING, 1)

    def test_against_fractions(self):
        bits = 1
        for k in range(400):
            bits = (bits * 6364136223846793005 + 1442695040888963407) % 2 ** 64
            sign = bits & 1
            exponent = 16380 + k % 68
            size = TOP_BIT | bits >> (k * 7 % 64) << (k * 5 % 64) & ALL_BITS
            value = Fraction(size) * Fraction(2) ** (exponent - 16446) * (-1 if sign else 1)
            for way in range(4):
                n = made_whole(value, way)
                if -2 ** 63 <= n < 2 ** 63:
                    self.check(row_of(sign, exponent, size), way, [0, n % 2 ** 64], 32 if n != value else 0)
                else:
                    self.check(row_of(sign, exponent, size), way, NOTHING, 1)

    def test_pops_and_keeps_flags(self):
        got = run(control(2, 1), whole(9), double(1), to_int(3), TOLD)
        self.assertEqual(got[-2:], [[0, 0], told_of(2, 1, 34, [whole_row(9)])])
        got = run(whole(9), double(0x7FF0000000000000), to_int(3), TOLD)
        self.assertEqual(got[-2:], [NOTHING, told_of(0, 2, 1, [whole_row(9)])])

    def test_refusals(self):
        for wrong in (-1, 5, 6) + ENDS:
            check_refused(self, wholes(1), to_int(wrong), -2)
            check_refused(self, [], to_int(wrong), -2)
        for way in range(5):
            check_refused(self, [], to_int(way), -4)


if __name__ == "__main__":
    unittest.main()
