"""Rounding and the form of numbers, straight: what the calls build on."""

import unittest

from ringreckon.number import exact_of, number_of
from ringreckon.rounding import Exact, Form, is_below, rounded, same_size

from helper import ALL_BITS, TOP_BIT

LEAST = -16382
LIMIT = 16384


def long_form(places):
    return Form(places, LEAST, LIMIT)


def number(sign, exponent, bits):
    return sign << 79 | exponent << 64 | bits


class NumbersAndValues(unittest.TestCase):
    def test_there_and_back(self):
        for sign in (0, 1):
            for exponent, bits in ((0, 0), (0, 1), (0, 5), (0, TOP_BIT - 1), (1, TOP_BIT), (1, ALL_BITS), (2, TOP_BIT),
                                   (16383, TOP_BIT), (32766, ALL_BITS)):
                told = number(sign, exponent, bits)
                self.assertEqual(number_of(exact_of(told)), told)

    def test_powers(self):
        for exponent, power in ((0, -16445), (1, -16445), (2, -16444), (16383, -63), (32766, 16320)):
            self.assertEqual(exact_of(number(0, exponent, TOP_BIT)).power, power)

    def test_values_of_few_bits(self):
        self.assertEqual(number_of(Exact(0, 1, -16445)), number(0, 0, 1))
        self.assertEqual(number_of(Exact(1, 1, -16383)), number(1, 0, 1 << 62))
        self.assertEqual(number_of(Exact(1, 1, -16382)), number(1, 1, TOP_BIT))
        self.assertEqual(number_of(Exact(0, 3, 16382)), number(0, 32766, 3 << 62))

    def test_zero_by_any_power(self):
        for power in (-20000, 0, 20000):
            self.assertEqual(number_of(Exact(1, 0, power)), number(1, 0, 0))

    def test_the_limit_is_infinity(self):
        self.assertEqual(number_of(Exact(1, 1, LIMIT)), number(1, 32767, TOP_BIT))


class Compared(unittest.TestCase):
    def test_same_size(self):
        self.assertTrue(same_size(Exact(0, 1, 3), Exact(1, 8, 0)))
        self.assertTrue(same_size(Exact(0, 8, 0), Exact(0, 1, 3)))
        self.assertFalse(same_size(Exact(0, 1, 3), Exact(0, 9, 0)))
        self.assertFalse(same_size(Exact(0, 1, 3), Exact(0, 1, 0)))
        self.assertTrue(same_size(Exact(0, 0, 3), Exact(1, 0, -70)))

    def test_is_below(self):
        self.assertTrue(is_below(Exact(0, 7, 0), 3))
        self.assertFalse(is_below(Exact(0, 8, 0), 3))
        self.assertTrue(is_below(Exact(0, 0, 50), 3))


class RoundedToLengths(unittest.TestCase):
    def check(self, value, places, way, expected, flags):
        got = rounded(value, long_form(places), way)
        self.assertEqual((number_of(got.value), got.flags), (expected, flags))

    def test_zero(self):
        for way in range(4):
            self.check(Exact(0, 0, 0), 24, way, number(0, 0, 0), 0)
            self.check(Exact(1, 0, 0), 64, way, number(1, 0, 0), 0)

    def test_fewer_bits_than_places(self):
        for places in (24, 53, 64):
            for way in range(4):
                self.check(Exact(1, 5, -1), places, way, number(1, 16384, 5 << 61), 0)

    def test_cut_to_places(self):
        for places in (24, 53, 64):
            tie = Exact(0, (1 << places) + 1, 0)
            low = number(0, 16383 + places, TOP_BIT)
            for way, expected in enumerate((low, low, low + (1 << (64 - places)), low)):
                self.check(tie, places, way, expected, 32)

    def test_too_great(self):
        for places in (24, 53, 64):
            greatest = number(0, 32766, ((1 << places) - 1) << (64 - places))
            infinite = number(0, 32767, TOP_BIT)
            for way, expected in enumerate((infinite, greatest, infinite, greatest)):
                self.check(Exact(0, 1, LIMIT), places, way, expected, 40)
            minus = 1 << 79
            for way, expected in enumerate((infinite, infinite, greatest, greatest)):
                self.check(Exact(1, 3, LIMIT + 9), places, way, expected + minus, 40)

    def test_too_small(self):
        for places in (24, 53, 64):
            unit = LEAST - places + 1
            least = 1 << (64 - places)
            self.check(Exact(0, 1, unit), places, 0, number(0, 0, least), 0)
            for way, expected in enumerate((0, 0, least, 0)):
                self.check(Exact(0, 1, unit - 1), places, way, expected, 48)
            for way, expected in enumerate((least, 0, least, 0)):
                self.check(Exact(0, 3, unit - 2), places, way, expected, 48)

    def test_up_to_the_least_full_one(self):
        full = number(0, 1, TOP_BIT)
        for places in (24, 53, 64):
            # All ones, one more than there are places: below with all its places only where it isn't rounded up.
            ones = Exact(0, (1 << (places + 1)) - 1, LEAST - places - 1)
            short = full - (1 << (64 - places))
            small = number(0, 0, short & (TOP_BIT - 1))
            for way, (expected, flags) in enumerate(((full, 32), (small, 48), (full, 32), (small, 48))):
                self.check(ones, places, way, expected, flags)
            # As many ones as places: it needs no rounding but for where it lies, so it is too small by each way.
            fewer = Exact(0, (1 << places) - 1, LEAST - places)
            for way, expected in enumerate((full, small, full, small)):
                self.check(fewer, places, way, expected, 48)


if __name__ == "__main__":
    unittest.main()
