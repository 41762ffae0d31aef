"""do (point 7, what Numbers says of rounding, and when 2 is set)."""

import random
import unittest

from helper import (ALL_BITS, EMPTY_ROW, ENDS, FULL_ROWS, GREATEST, INFINITE, INFINITE_ROWS, LEAST, LEAST_FULL,
                    MIRRORED, MOST_SMALL, NONE_ROW, NUMBER_ROWS, ONE, PLACES, SMALL_ROWS, TOLD, TOP_BIT, ZERO,
                    ZERO_ROWS, check_outcome, check_refused, control, do, flags, free, load, minus, outcome, power_row,
                    rounded_row, row_of, run, sign_in, told_of, value_of_row, whole_row, wholes)

ADD, LESS, LESS_TURNED, TIMES, BY, BY_TURNED = range(6)
SUMS = (ADD, LESS, LESS_TURNED)


def exact_result(op, x, y):
    """The fraction that the op makes of two."""
    if op in SUMS:
        return (x + y, x - y, y - x)[op]
    return x * y if op == TIMES else x / y if op == BY else y / x


def one_row(op, x, y, way=0, length=2):
    """What is at the top and the flags behind do with x and y; y is left at 1."""
    answer, flag_sum, rows = outcome(do(op, 1), [x, y], way, length)
    assert answer == [0] and rows[1:] == [y] + [EMPTY_ROW] * 6
    return rows[0], flag_sum


def greatest_of(places):
    return row_of(0, 32766, ((1 << places) - 1) << (64 - places))


class Places(unittest.TestCase):
    def test_every_op_at_both_places(self):
        results = {ADD: whole_row(9), LESS: whole_row(3), LESS_TURNED: whole_row(-3), TIMES: whole_row(18),
                   BY: whole_row(2), BY_TURNED: power_row(-1)}
        for op, expected in results.items():
            for i in range(1, 8):
                for to in (0, i):
                    rows = [whole_row(6)] + [whole_row(100 + k) for k in range(1, 8)]
                    rows[i] = whole_row(3)
                    after = list(rows)
                    after[to] = expected
                    check_outcome(self, do(op, i, to), rows, (0, 0, after))

    def test_with_itself(self):
        results = {ADD: whole_row(12), LESS: ZERO, LESS_TURNED: ZERO, TIMES: whole_row(36), BY: ONE, BY_TURNED: ONE}
        for op, expected in results.items():
            check_outcome(self, do(op, 0, 0), [whole_row(6), whole_row(5)], (0, 0, [expected, whole_row(5)]))

    def test_over_empty_ones(self):
        before = wholes(3, 4, 5, 6) + [free(1), free(2)]
        self.assertEqual(run(*before, do(LESS, 3, 0), TOLD)[-2:],
                         [[0], told_of(0, 2, 0, [whole_row(3), EMPTY_ROW, EMPTY_ROW, whole_row(3)])])
        self.assertEqual(run(*before, do(BY, 3, 3), TOLD)[-2:],
                         [[0], told_of(0, 2, 0, [whole_row(6), EMPTY_ROW, EMPTY_ROW, whole_row(2)])])

    def test_what_is_set_stays(self):
        self.assertEqual(run(*wholes(3, 1), control(1, 0), do(BY, 1), do(BY, 1), control(2, 1), TOLD)[-1][1:4],
                         [2, 1, 32])


class Refusals(unittest.TestCase):
    def test_arguments(self):
        for before in ([], wholes(1, 2, 3, 4)):
            for wrong in (-1, 6, 7) + ENDS:
                check_refused(self, before, do(wrong, 1, 0), -2)
            for wrong in (-1, 8, 9) + ENDS:
                check_refused(self, before, do(0, wrong, 0), -2)
                check_refused(self, before, do(0, wrong, wrong), -2)

    def test_to_is_neither_the_top_nor_i(self):
        for before in ([], wholes(*range(1, 9))):
            for i in range(8):
                for to in tuple(range(-1, 9)) + ENDS:
                    if to not in (0, i):
                        check_refused(self, before, do(3, i, to), -2)

    def test_empty_ones(self):
        full = wholes(*range(1, 9))
        for op in range(6):
            check_refused(self, [], do(op, 0, 0), -4)
            check_refused(self, full + [free(0)], do(op, 0, 0), -4)
            for i in range(1, 8):
                for to in (0, i):
                    check_refused(self, [], do(op, i, to), -4)
                    check_refused(self, full + [free(0)], do(op, i, to), -4)
                    check_refused(self, full + [free(i)], do(op, i, to), -4)


class Rounding(unittest.TestCase):
    def check_ways(self, op, x, y, length, rows, flag_sums):
        """By each way, and with the other sign by the way that mirrors it."""
        for way in range(4):
            self.assertEqual(one_row(op, x, y, way, length), (rows[way], flag_sums[way]), (op, x, y, length, way))
            turned = minus(y) if op in SUMS else y
            self.assertEqual(one_row(op, minus(x), turned, MIRRORED[way], length), (minus(rows[way]), flag_sums[way]),
                             (op, x, y, length, way))

    def test_exact(self):
        for length in range(3):
            self.check_ways(ADD, ONE, whole_row(2), length, [whole_row(3)] * 4, [0] * 4)
            self.check_ways(TIMES, whole_row(4095), whole_row(4097), length, [whole_row(4095 * 4097)] * 4, [0] * 4)
            self.check_ways(BY, whole_row(7), whole_row(8), length, [row_of(0, 16382, 7 << 61)] * 4, [0] * 4)

    def test_operands_keep_their_bits(self):
        self.check_ways(LESS, row_of(0, 16383, TOP_BIT + 3), row_of(0, 16383, TOP_BIT + 1), 0,
                        [power_row(-62)] * 4, [0] * 4)

    def test_ties(self):
        for length, places in enumerate(PLACES):
            even, odd, then = [row_of(0, 16383, TOP_BIT + (k << (64 - places))) for k in range(3)]
            half = power_row(-places)
            self.check_ways(ADD, even, half, length, [even, even, odd, even], [32] * 4)
            self.check_ways(ADD, odd, half, length, [then, odd, then, odd], [32] * 4)

    def test_beside_ties(self):
        for length, places in enumerate(PLACES):
            even, odd, then = [row_of(0, 16383, TOP_BIT + (k << (64 - places))) for k in range(3)]
            above = row_of(0, 16383 - places, TOP_BIT + 1)
            below = row_of(0, 16382 - places, ALL_BITS)
            self.check_ways(ADD, even, above, length, [odd, even, odd, even], [32] * 4)
            self.check_ways(ADD, even, below, length, [even, even, odd, even], [32] * 4)
            self.check_ways(ADD, odd, below, length, [odd, odd, then, odd], [32] * 4)

    def test_into_the_next_power(self):
        two = whole_row(2)
        for length, places in enumerate(PLACES):
            ones = row_of(0, 16383, ((1 << places) - 1) << (64 - places))
            self.check_ways(ADD, ones, power_row(-places), length, [two, ones, two, ones], [32] * 4)
            self.check_ways(ADD, ones, power_row(-places - 1), length, [ones, ones, two, ones], [32] * 4)

    def test_a_third(self):
        # The bits are 1010..: behind 24 and 64 of them more than a half is cut off, behind 53 less.
        for length, places in enumerate(PLACES):
            cut = 0xAAAAAAAAAAAAAAAA >> (64 - places)
            low, high = [row_of(0, 16381, bits << (64 - places)) for bits in (cut, cut + 1)]
            near = low if places == 53 else high
            self.check_ways(BY, ONE, whole_row(3), length, [near, low, high, low], [32] * 4)
            self.check_ways(BY_TURNED, whole_row(3), ONE, length, [near, low, high, low], [32] * 4)

    def test_too_great(self):
        for length, places in enumerate(PLACES):
            most = greatest_of(places)
            rows = [INFINITE, most, INFINITE, most]
            self.check_ways(ADD, GREATEST, GREATEST, length, rows, [40] * 4)
            self.check_ways(TIMES, GREATEST, GREATEST, length, rows, [40] * 4)
            self.check_ways(BY, GREATEST, power_row(-1), length, rows, [40] * 4)
            self.check_ways(ADD, power_row(16383), power_row(16383), length, rows, [40] * 4)

    def test_about_the_limit(self):
        for length, places in enumerate(PLACES):
            most = greatest_of(places)
            half = power_row(16383 - places)
            # Half a unit more leads to 2^16384 by two ways; where it doesn't, it is but not exact.
            self.check_ways(ADD, most, half, length, [INFINITE, most, INFINITE, most], [40, 32, 40, 32])
            quarter = power_row(16382 - places)
            self.check_ways(ADD, most, quarter, length, [most, most, INFINITE, most], [32, 32, 40, 32])
            self.check_ways(ADD, most, ZERO, length, [most] * 4, [0] * 4)
            self.check_ways(ADD, most, row_of(0, 32767 - places, TOP_BIT), length,
                            [INFINITE, most, INFINITE, most], [40] * 4)

    def test_longer_than_the_length_at_the_limit(self):
        for length in (0, 1):
            most = greatest_of(PLACES[length])
            self.check_ways(ADD, GREATEST, ZERO, length, [INFINITE, most, INFINITE, most], [40, 32, 40, 32])
            self.check_ways(TIMES, GREATEST, ONE, length, [INFINITE, most, INFINITE, most], [40, 32, 40, 32])

    def test_below_the_full_ones_and_exact(self):
        for length in range(3):
            self.check_ways(BY, LEAST_FULL, whole_row(2), length, [row_of(0, 0, 1 << 62)] * 4, [0] * 4)
            self.check_ways(TIMES, LEAST_FULL, power_row(-23), length, [row_of(0, 0, 1 << 40)] * 4, [0] * 4)
        self.check_ways(LESS, row_of(0, 1, TOP_BIT + 1), LEAST_FULL, 2, [LEAST] * 4, [0] * 4)
        self.check_ways(TIMES, LEAST_FULL, power_row(-63), 2, [LEAST] * 4, [0] * 4)

    def test_below_the_full_ones_and_not_exact(self):
        for length, places in enumerate(PLACES):
            unit = row_of(0, 0, 1 << (64 - places))
            two = row_of(0, 0, 2 << (64 - places))
            self.check_ways(TIMES, LEAST_FULL, power_row(-places), length, [ZERO, ZERO, unit, ZERO], [48] * 4)
            self.check_ways(TIMES, power_row(-16380), row_of(0, 16382 - places, 3 << 62), length,
                            [two, unit, two, unit], [48] * 4)
            self.check_ways(TIMES, power_row(-16380), power_row(-16380), length, [ZERO, ZERO, unit, ZERO], [48] * 4)
            self.check_ways(BY, power_row(-16380), GREATEST, length, [ZERO, ZERO, unit, ZERO], [48] * 4)

    def test_sums_of_small_ones_cut_to_nothing(self):
        for length in (0, 1):
            unit = row_of(0, 0, 1 << (64 - PLACES[length]))
            self.check_ways(ADD, LEAST, LEAST, length, [ZERO, ZERO, unit, ZERO], [50] * 4)
            self.check_ways(LESS, row_of(0, 0, 3), LEAST, length, [ZERO, ZERO, unit, ZERO], [50] * 4)

    def test_up_to_the_least_full_one(self):
        # 2^65 - 1 is 31 by another whole number: one bit more than the longest length, all ones.
        ones = 2 ** 65 - 1
        other = ones // 31
        x = row_of(0, other.bit_length(), other << (64 - other.bit_length()))
        y = row_of(0, 16383 - 65 + 4, 31 << 59)
        self.assertEqual(value_of_row(x) * value_of_row(y) * 2 ** 16382 * 2 ** 65, ones)
        # Free of bounds it is rounded up to 2^-16382 by two ways: not too small then.
        self.check_ways(TIMES, x, y, 2, [LEAST_FULL, MOST_SMALL, LEAST_FULL, MOST_SMALL], [32, 48, 32, 48])
        # With 64 ones it needs no rounding but for where it lies, so it is too small by every way.
        self.check_ways(TIMES, LEAST_FULL, row_of(0, 16382, ALL_BITS), 2,
                        [LEAST_FULL, MOST_SMALL, LEAST_FULL, MOST_SMALL], [48] * 4)

    def test_up_to_the_least_full_one_at_shorter_lengths(self):
        for length in (0, 1):
            places = PLACES[length]
            most = row_of(0, 0, TOP_BIT - (1 << (64 - places)))
            rows = [LEAST_FULL, most, LEAST_FULL, most]
            self.check_ways(TIMES, LEAST_FULL, row_of(0, 16382, ALL_BITS), length, rows, [32, 48, 32, 48])
            self.check_ways(TIMES, LEAST_FULL, row_of(0, 16382, ((1 << places) - 1) << (64 - places)), length,
                            rows, [48] * 4)

    def test_far_apart(self):
        below_one = row_of(0, 16382, ALL_BITS)
        for far in (power_row(-16382), power_row(-66), power_row(-65)):
            self.check_ways(ADD, ONE, far, 2, [ONE, ONE, row_of(0, 16383, TOP_BIT + 1), ONE], [32] * 4)
        for far in (power_row(-16382), power_row(-66)):
            self.check_ways(LESS, ONE, far, 2, [ONE, below_one, ONE, below_one], [32] * 4)
        self.check_ways(ADD, GREATEST, LEAST, 2, [GREATEST, GREATEST, INFINITE, GREATEST], [34, 34, 42, 34])
        under = row_of(0, 32766, ALL_BITS - 1)
        self.check_ways(LESS, GREATEST, LEAST, 2, [GREATEST, under, GREATEST, under], [34] * 4)
        self.check_ways(LESS, GREATEST, LEAST_FULL, 2, [GREATEST, under, GREATEST, under], [32] * 4)

    def test_as_worded(self):
        """Pairs that lie near the edges, by every op, length and way, held against fractions."""
        source = random.Random(7)
        rows = [LEAST, minus(MOST_SMALL), LEAST_FULL, minus(ONE), row_of(0, 16383, ALL_BITS), power_row(-24),
                row_of(1, 16383 - 53, TOP_BIT + 1), row_of(0, 16400, source.getrandbits(64) | TOP_BIT),
                row_of(1, 16390, source.getrandbits(64) | TOP_BIT), minus(GREATEST), row_of(0, 8192, 3 << 62)]
        for x in rows:
            for y in rows:
                self.check_as_worded(x, y)

    def check_as_worded(self, x, y):
        calls = []
        expected = []
        for op in range(6):
            value = exact_result(op, value_of_row(x), value_of_row(y))
            for way in range(4):
                for length, places in enumerate(PLACES):
                    calls += [control(way, length), flags(1), load(x), do(op, 1), TOLD, [8]]
                    small = 2 if x in SMALL_ROWS or y in SMALL_ROWS else 0
                    row, flag_sum = (row_of(int(way == 1), 0, 0), 0) if value == 0 else rounded_row(value, places, way)
                    expected.append(told_of(way, length, small | flag_sum, [row, y]))
        # A list holds no more than 400 calls.
        got = [run(load(y), *calls[k:k + 360])[5::6] for k in range(0, len(calls), 360)]
        self.assertEqual([told for part in got for told in part], expected)


class SumsThatAreZero(unittest.TestCase):
    def test_two_of_one_size(self):
        for way in range(4):
            zero = minus(ZERO) if way == 1 else ZERO
            for length in range(3):
                for row in (ONE, whole_row(-7), GREATEST, minus(LEAST_FULL)):
                    self.assertEqual(one_row(ADD, row, minus(row), way, length), (zero, 0))
                    self.assertEqual(one_row(LESS, row, row, way, length), (zero, 0))
                    self.assertEqual(one_row(LESS_TURNED, row, row, way, length), (zero, 0))
                self.assertEqual(one_row(LESS, LEAST, LEAST, way, length), (zero, 2))

    def test_two_zeros(self):
        for way in range(4):
            mixed = minus(ZERO) if way == 1 else ZERO
            for x in ZERO_ROWS:
                for y in ZERO_ROWS:
                    self.assertEqual(one_row(ADD, x, y, way), (x if x == y else mixed, 0))
                    self.assertEqual(one_row(LESS, x, y, way), (x if x != y else mixed, 0))
                    self.assertEqual(one_row(LESS_TURNED, x, y, way), (y if x != y else mixed, 0))

    def test_a_zero_and_another(self):
        for way in range(4):
            for zero in ZERO_ROWS:
                for row in FULL_ROWS:
                    self.assertEqual(one_row(ADD, zero, row, way), (row, 0))
                    self.assertEqual(one_row(LESS, zero, row, way), (minus(row), 0))
                    self.assertEqual(one_row(LESS_TURNED, zero, row, way), (row, 0))


class NothingComesOfIt(unittest.TestCase):
    def check(self, op, x, y):
        for way in range(4):
            for length in range(3):
                self.assertEqual(one_row(op, x, y, way, length), (NONE_ROW, 1), (op, x, y))
        check_outcome(self, do(op, 1, 1), [x, y], (0, 1, [x, NONE_ROW]))

    def test_infinities_with_both_signs(self):
        for x in INFINITE_ROWS:
            self.check(ADD, x, minus(x))
            self.check(LESS, x, x)
            self.check(LESS_TURNED, x, x)

    def test_zero_times_infinity(self):
        for zero in ZERO_ROWS:
            for infinite in INFINITE_ROWS:
                self.check(TIMES, zero, infinite)
                self.check(TIMES, infinite, zero)

    def test_zero_by_zero_and_infinity_by_infinity(self):
        for op in (BY, BY_TURNED):
            for rows in (ZERO_ROWS, INFINITE_ROWS):
                for x in rows:
                    for y in rows:
                        self.check(op, x, y)

    def test_with_itself(self):
        for op, row in ((LESS, INFINITE), (LESS_TURNED, INFINITE), (BY, INFINITE), (BY, ZERO), (BY_TURNED, ZERO)):
            check_outcome(self, do(op, 0, 0), [row], (0, 1, [NONE_ROW]))

    def test_what_is_none_is_taken(self):
        for op in range(6):
            for row in NUMBER_ROWS + [NONE_ROW]:
                self.assertEqual(one_row(op, NONE_ROW, row), (NONE_ROW, 0))
                self.assertEqual(one_row(op, row, NONE_ROW), (NONE_ROW, 0))
                check_outcome(self, do(op, 1, 1), [NONE_ROW, row], (0, 0, [NONE_ROW, NONE_ROW]))


class Infinities(unittest.TestCase):
    def finite_rows(self):
        """The rows that aren't 0, and the flag that each sets by being taken."""
        return [(row, 2) for row in SMALL_ROWS] + [(row, 0) for row in FULL_ROWS]

    def test_sums(self):
        for infinite in INFINITE_ROWS:
            self.assertEqual(one_row(ADD, infinite, infinite), (infinite, 0))
            self.assertEqual(one_row(LESS, infinite, minus(infinite)), (infinite, 0))
            self.assertEqual(one_row(LESS_TURNED, infinite, minus(infinite)), (minus(infinite), 0))
            for row, small in self.finite_rows() + [(row, 0) for row in ZERO_ROWS]:
                self.assertEqual(one_row(ADD, infinite, row), (infinite, small))
                self.assertEqual(one_row(ADD, row, infinite), (infinite, small))
                self.assertEqual(one_row(LESS, infinite, row), (infinite, small))
                self.assertEqual(one_row(LESS, row, infinite), (minus(infinite), small))
                self.assertEqual(one_row(LESS_TURNED, infinite, row), (minus(infinite), small))
                self.assertEqual(one_row(LESS_TURNED, row, infinite), (infinite, small))

    def test_products(self):
        for x in INFINITE_ROWS:
            for y, small in self.finite_rows() + [(row, 0) for row in INFINITE_ROWS]:
                expected = (INFINITE if sign_in(x) == sign_in(y) else minus(INFINITE), small)
                self.assertEqual(one_row(TIMES, x, y), expected)
                self.assertEqual(one_row(TIMES, y, x), expected)

    def test_quotients(self):
        for infinite in INFINITE_ROWS:
            for row, small in self.finite_rows() + [(row, 0) for row in ZERO_ROWS]:
                alike = sign_in(infinite) == sign_in(row)
                great = (INFINITE if alike else minus(INFINITE), small)
                nought = (ZERO if alike else minus(ZERO), small)
                self.assertEqual(one_row(BY, infinite, row), great)
                self.assertEqual(one_row(BY_TURNED, row, infinite), great)
                self.assertEqual(one_row(BY, row, infinite), nought)
                self.assertEqual(one_row(BY_TURNED, infinite, row), nought)

    def test_by_zero(self):
        for zero in ZERO_ROWS:
            for row, small in self.finite_rows():
                expected = (INFINITE if sign_in(zero) == sign_in(row) else minus(INFINITE), 4 + small)
                for way in range(4):
                    self.assertEqual(one_row(BY, row, zero, way), expected)
                    self.assertEqual(one_row(BY_TURNED, zero, row, way), expected)

    def test_zero_by_and_zero_times_another(self):
        for zero in ZERO_ROWS:
            for row, small in self.finite_rows():
                expected = (ZERO if sign_in(zero) == sign_in(row) else minus(ZERO), small)
                for way in range(4):
                    self.assertEqual(one_row(BY, zero, row, way), expected)
                    self.assertEqual(one_row(BY_TURNED, row, zero, way), expected)
                    self.assertEqual(one_row(TIMES, zero, row, way), expected)
                    self.assertEqual(one_row(TIMES, row, zero, way), expected)
        for x in ZERO_ROWS:
            for y in ZERO_ROWS:
                self.assertEqual(one_row(TIMES, x, y), (ZERO if x == y else minus(ZERO), 0))


class SmallOnes(unittest.TestCase):
    def test_on_either_side(self):
        for op in range(6):
            for row in SMALL_ROWS:
                self.assertEqual(one_row(op, row, whole_row(3))[1] & 3, 2)
                self.assertEqual(one_row(op, whole_row(3), row)[1] & 3, 2)

    def test_not_for_a_small_result(self):
        self.assertEqual(one_row(BY, LEAST_FULL, whole_row(2)), (row_of(0, 0, 1 << 62), 0))

    def test_together_with_others(self):
        self.assertEqual(one_row(BY, LEAST, ZERO), (INFINITE, 6))
        self.assertEqual(one_row(BY, GREATEST, LEAST), (INFINITE, 42))
        self.assertEqual(one_row(BY, LEAST, whole_row(2)), (ZERO, 50))
        self.assertEqual(one_row(ADD, LEAST, ONE), (ONE, 34))
        self.assertEqual(one_row(ADD, LEAST, LEAST), (row_of(0, 0, 2), 2))
        self.assertEqual(one_row(ADD, MOST_SMALL, LEAST), (LEAST_FULL, 2))

    def test_a_small_one_that_is_not_taken(self):
        check_outcome(self, do(ADD, 1), [ONE, ONE, LEAST], (0, 0, [whole_row(2), ONE, LEAST]))

    def test_flags_from_before_stay(self):
        calls = [load(ZERO), load(ZERO), do(BY, 1), load(LEAST), load(ONE), do(ADD, 1), flags()]
        self.assertEqual(run(*calls)[-1], [35])


if __name__ == "__main__":
    unittest.main()
