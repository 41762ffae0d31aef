"""load, whole, double, store (points 3 and 4, and Numbers)."""

import struct
import unittest
from fractions import Fraction

from helper import (ALL_BITS, NONE_ROW, STORE, TOLD, TOP_BIT, check_refused, control, double, flags, last, load,
                    row_of, run, told_of, value_of_row, whole, whole_row, wholes)

FULL = wholes(*range(1, 9))

KEPT_AS_THEY_ARE = [
    (0, 0), (0, 1), (0, 2), (0, TOP_BIT - 1), (0, 1 << 62),
    (1, TOP_BIT), (1, ALL_BITS), (16383, TOP_BIT), (16383, TOP_BIT + 1), (16446, ALL_BITS),
    (32766, TOP_BIT), (32766, ALL_BITS), (32767, TOP_BIT),
]

REFUSED = [
    (0, TOP_BIT), (0, ALL_BITS), (0, TOP_BIT + 1),
    (1, 0), (1, 1), (1, TOP_BIT - 1), (2, 1 << 62), (16383, 0), (32766, TOP_BIT - 1),
    (32767, 0), (32767, 1), (32767, 1 << 62), (32767, TOP_BIT - 1),
]


class Load(unittest.TestCase):
    def test_kept_as_they_are(self):
        for sign in (0, 1):
            for exponent, bits in KEPT_AS_THEY_ARE:
                row = row_of(sign, exponent, bits)
                self.assertEqual(run(load(row), TOLD, STORE), [[0], told_of(0, 2, 0, [row]), [0] + row])

    def test_lowest_byte_first(self):
        row = [1, 2, 3, 4, 5, 6, 7, 0x88, 9, 0x90]
        self.assertEqual(last(load(row), STORE), [0] + row)

    def test_what_is_none_is_kept_as_the_one(self):
        for sign in (0, 1):
            for bits in (TOP_BIT + 1, 3 << 62, ALL_BITS, TOP_BIT + (1 << 61), (3 << 62) + 5):
                self.assertEqual(run(load(row_of(sign, 32767, bits)), TOLD, STORE),
                                 [[0], told_of(0, 2, 0, [NONE_ROW]), [0] + NONE_ROW])

    def test_ways_and_lengths_leave_it(self):
        row = row_of(1, 3, ALL_BITS)
        for way in range(4):
            for length in range(3):
                self.assertEqual(last(control(way, length), load(row), TOLD), told_of(way, length, 0, [row]))

    def test_refused_forms(self):
        for sign in (0, 1):
            for exponent, bits in REFUSED:
                check_refused(self, wholes(1), load(row_of(sign, exponent, bits)), -3)

    def test_empty_form_is_refused(self):
        check_refused(self, [], load([0, 0, 0, 0, 0, 0, 0, 0, 1, 0]), -3)

    def test_refused_when_full(self):
        check_refused(self, FULL, load(row_of(0, 16383, TOP_BIT)), -5)
        check_refused(self, FULL, load(NONE_ROW), -5)

    def test_form_counts_before_full(self):
        check_refused(self, FULL, load(row_of(0, 0, TOP_BIT)), -3)
        check_refused(self, FULL, load(row_of(0, 9, 5)), -3)

    def test_what_is_not_ten_bytes(self):
        row = row_of(0, 9, 5)
        for wrong in (row[:9], row + [0], [], [256] + row[1:], row[:9] + [-1]):
            check_refused(self, FULL, load(wrong), -2)
            self.assertEqual(run(load(wrong), whole(1), TOLD)[1:], [[0], told_of(0, 2, 0, [whole_row(1)])])


class Whole(unittest.TestCase):
    def test_by_hand(self):
        for n, row in (
            (0, row_of(0, 0, 0)),
            (1, row_of(0, 16383, TOP_BIT)),
            (-1, row_of(1, 16383, TOP_BIT)),
            (3, row_of(0, 16384, 3 << 62)),
            (-10, row_of(1, 16386, 10 << 60)),
            (-2 ** 63, row_of(1, 16446, TOP_BIT)),
            (2 ** 63 - 1, row_of(0, 16445, ALL_BITS - 1)),
            (-(2 ** 63 - 1), row_of(1, 16445, ALL_BITS - 1)),
            (2 ** 62, row_of(0, 16445, TOP_BIT)),
            (2 ** 62 + 1, row_of(0, 16445, TOP_BIT + 2)),
            (2 ** 31, row_of(0, 16414, TOP_BIT)),
            (-2 ** 31 - 1, row_of(1, 16414, TOP_BIT + (1 << 32))),
        ):
            self.assertEqual(run(whole(n), TOLD), [[0], told_of(0, 2, 0, [row])], n)

    def test_around_powers_of_two(self):
        for power in range(1, 63):
            for n in (2 ** power - 1, 2 ** power, 2 ** power + 1):
                for signed in (n, -n):
                    self.assertEqual(last(whole(signed), STORE), [0] + whole_row(signed))
                    self.assertEqual(value_of_row(last(whole(signed), STORE)[1:]), signed)

    def test_not_rounded_to_the_length(self):
        for way in range(4):
            self.assertEqual(last(control(way, 0), whole(2 ** 63 - 1), TOLD),
                             told_of(way, 0, 0, [row_of(0, 16445, ALL_BITS - 1)]))

    def test_refusals(self):
        for n in (0, 1, -2 ** 63):
            check_refused(self, FULL, whole(n), -5)
        for wrong in (2 ** 63, -2 ** 63 - 1, 2 ** 64):
            check_refused(self, [], whole(wrong), -2)
            check_refused(self, FULL, whole(wrong), -2)


class Double(unittest.TestCase):
    def check(self, bits, row, flag_sum):
        self.assertEqual(run(double(bits), TOLD), [[0], told_of(0, 2, flag_sum, [row])], hex(bits))

    def test_by_hand(self):
        for sign in (0, 1):
            minus = sign << 63
            self.check(minus, row_of(sign, 0, 0), 0)
            self.check(minus + 1, row_of(sign, 16383 - 1074, TOP_BIT), 2)
            self.check(minus + 2, row_of(sign, 16383 - 1073, TOP_BIT), 2)
            self.check(minus + 3, row_of(sign, 16383 - 1073, 3 << 62), 2)
            self.check(minus + (1 << 51), row_of(sign, 16383 - 1023, TOP_BIT), 2)
            self.check(minus + (1 << 52) - 1, row_of(sign, 16383 - 1023, ALL_BITS - 0xFFF), 2)
            self.check(minus + (1 << 52), row_of(sign, 16383 - 1022, TOP_BIT), 0)
            self.check(minus + (1 << 52) + 1, row_of(sign, 16383 - 1022, TOP_BIT + (1 << 11)), 0)
            self.check(minus + 0x3FF0000000000000, row_of(sign, 16383, TOP_BIT), 0)
            self.check(minus + 0x4008000000000000, row_of(sign, 16384, 3 << 62), 0)
            self.check(minus + 0x7FEFFFFFFFFFFFFF, row_of(sign, 16383 + 1023, ALL_BITS - 0x7FF), 0)
            self.check(minus + 0x7FF0000000000000, row_of(sign, 32767, TOP_BIT), 0)

    def test_what_is_none(self):
        for minus in (0, 1 << 63):
            for fraction in (1, 1 << 51, (1 << 51) + 1, (1 << 51) - 1, (1 << 52) - 1):
                self.check(minus + 0x7FF0000000000000 + fraction, NONE_ROW, 0)

    def test_against_the_machine(self):
        bits = 0x9E3779B97F4A7C15
        for k in range(500):
            bits = (bits * 6364136223846793005 + 1442695040888963407) % 2 ** 64
            told = bits if k % 3 else bits & 0x801FFFFFFFFFFFFF
            value = struct.unpack("<d", told.to_bytes(8, "little"))[0]
            if told >> 52 & 2047 < 2047:
                got = run(double(told), flags(), STORE)
                self.assertEqual(value_of_row(got[2][1:]), Fraction(value))
                self.assertEqual(got[1], [2 if told >> 52 & 2047 == 0 else 0])

    def test_not_rounded_to_the_length(self):
        for way in range(4):
            self.assertEqual(last(control(way, 0), double(0x3FF0000000000001), TOLD),
                             told_of(way, 0, 0, [row_of(0, 16383, TOP_BIT + (1 << 11))]))

    def test_refusals(self):
        for bits in (0, 1, 0x3FF0000000000000, 0x7FF8000000000000, ALL_BITS):
            check_refused(self, FULL, double(bits), -5)
        for wrong in (-1, 2 ** 64):
            check_refused(self, [], double(wrong), -2)
            check_refused(self, FULL, double(wrong), -2)


class Store(unittest.TestCase):
    def test_pops_in_order(self):
        got = run(*wholes(1, -2, 3), STORE, STORE, STORE, STORE)
        self.assertEqual(got[3:], [[0] + whole_row(3), [0] + whole_row(-2), [0] + whole_row(1), [-4]])

    def test_sets_no_flags(self):
        for row in (row_of(0, 0, 1), row_of(1, 32767, TOP_BIT), NONE_ROW, row_of(0, 16383, ALL_BITS)):
            self.assertEqual(run(control(1, 0), load(row), STORE, flags())[2:], [[0] + row, [0]])

    def test_refused_when_empty(self):
        check_refused(self, [], STORE, -4)
        check_refused(self, [double(1), STORE], STORE, -4)


if __name__ == "__main__":
    unittest.main()
