"""compare and against (point 13, and when 2 is set)."""

import unittest

from helper import (ALL_BITS, ENDS, FULL_ROWS, GREATEST, INFINITE, INFINITE_ROWS, LEAST, LEAST_FULL, MOST_SMALL,
                    NONE_ROW, NUMBER_ROWS, ONE, SMALL_ROWS, TOLD, TOP_BIT, ZERO, ZERO_ROWS, against, check_outcome,
                    check_refused, compare, control, free, load, minus, power_row, row_of, run, value_of_row,
                    whole_row, wholes)

BELOW, ALIKE, ABOVE, ONE_IS_NONE = range(4)

# Numbers that rise; what stands in one of these is alike.
RISING = [
    [minus(INFINITE)], [minus(GREATEST)], [whole_row(-8)], [whole_row(-7)], [row_of(1, 16383, TOP_BIT + 1)],
    [minus(ONE)], [minus(row_of(0, 16382, ALL_BITS))], [minus(LEAST_FULL)], [minus(MOST_SMALL)], [row_of(1, 0, 2)],
    [minus(LEAST)], [minus(ZERO), ZERO], [LEAST], [row_of(0, 0, 2)], [MOST_SMALL], [LEAST_FULL],
    [row_of(0, 1, TOP_BIT + 1)], [row_of(0, 2, TOP_BIT)], [row_of(0, 16382, ALL_BITS)], [ONE],
    [row_of(0, 16383, TOP_BIT + 1)], [whole_row(7)], [whole_row(8)], [row_of(0, 32766, ALL_BITS - 1)], [GREATEST],
    [INFINITE],
]


def is_small(row):
    return row[8] == 0 and row[9] in (0, 0x80) and any(row[:8])


def order(one, other):
    return BELOW if one < other else ALIKE if one == other else ABOVE


def small_flag(*rows):
    return 2 if any(is_small(row) for row in rows) else 0


class Compare(unittest.TestCase):
    def check(self, x, y, expected, flag_sum, strict):
        rows = [x, y, whole_row(9)]
        check_outcome(self, compare(strict, 1), rows, (expected, flag_sum, rows))

    def test_every_pair(self):
        ranked = [(place, row) for place, rows in enumerate(RISING) for row in rows]
        for one, x in ranked:
            for other, y in ranked:
                for strict in (0, 1):
                    self.check(x, y, order(one, other), small_flag(x, y), strict)

    def test_every_sort(self):
        for x in NUMBER_ROWS:
            for y in NUMBER_ROWS:
                if x not in INFINITE_ROWS and y not in INFINITE_ROWS:
                    self.check(x, y, order(value_of_row(x), value_of_row(y)), small_flag(x, y), 1)

    def test_each_place(self):
        for i in range(8):
            rows = [whole_row(n) for n in (4, 1, 7, 4, -4, 9, 5, 3)]
            expected = (ALIKE, ABOVE, BELOW, ALIKE, ABOVE, BELOW, BELOW, ABOVE)[i]
            for strict in (0, 1):
                check_outcome(self, compare(strict, i), rows, (expected, 0, rows))

    def test_with_itself(self):
        for row in NUMBER_ROWS:
            for strict in (0, 1):
                check_outcome(self, compare(strict, 0), [row], (ALIKE, small_flag(row), [row]))
        check_outcome(self, compare(0, 0), [NONE_ROW], (ONE_IS_NONE, 0, [NONE_ROW]))
        check_outcome(self, compare(1, 0), [NONE_ROW], (ONE_IS_NONE, 1, [NONE_ROW]))

    def test_what_is_none(self):
        for row in NUMBER_ROWS + [NONE_ROW]:
            for strict in (0, 1):
                self.check(NONE_ROW, row, ONE_IS_NONE, strict, strict)
                self.check(row, NONE_ROW, ONE_IS_NONE, strict, strict)

    def test_ways_and_lengths_do_not_count(self):
        x, y = row_of(0, 16383, TOP_BIT + 1), ONE
        for way in range(4):
            for length in range(3):
                check_outcome(self, compare(1, 1), [x, y], (ABOVE, 0, [x, y]), way, length)

    def test_a_small_one_that_is_not_taken(self):
        rows = [ONE, LEAST, whole_row(2)]
        check_outcome(self, compare(1, 2), rows, (BELOW, 0, rows))
        check_outcome(self, compare(1, 1), rows, (ABOVE, 2, rows))

    def test_refusals(self):
        for before in ([], wholes(1, 2)):
            for wrong in (-1, 2, 3) + ENDS:
                check_refused(self, before, compare(wrong, 1), -2)
            for wrong in (-1, 8, 9) + ENDS:
                check_refused(self, before, compare(0, wrong), -2)
                check_refused(self, before, compare(1, wrong), -2)
        full = wholes(*range(1, 9))
        for strict in (0, 1):
            for i in range(8):
                check_refused(self, [], compare(strict, i), -4)
                check_refused(self, full + [free(0)], compare(strict, i), -4)
                check_refused(self, full + [free(i)], compare(strict, i), -4)
        check_refused(self, [load(NONE_ROW)], compare(1, 1), -4)


class Against(unittest.TestCase):
    def check(self, row, n, expected, flag_sum=0):
        rows = [row, whole_row(9)]
        check_outcome(self, against(n), rows, (expected, flag_sum, rows))

    def test_whole_numbers(self):
        for n in ENDS + (-7, -1, 1, 2, 1000, 2147483646, -2147483647):
            self.check(whole_row(n), n, ALIKE)
            self.check(row_of(*parts_beside(n, 1)), n, BELOW if n < 0 else ABOVE)
            self.check(row_of(*parts_beside(n, -1)), n, ABOVE if n < 0 else BELOW)

    def test_both_ends(self):
        low, high = ENDS
        self.check(power_row(31), high, ABOVE)
        self.check(power_row(31, 1), low, ALIKE)
        self.check(whole_row(low - 1), low, BELOW)
        self.check(whole_row(high + 1), high, ABOVE)
        self.check(whole_row(low), high, BELOW)
        self.check(whole_row(high), low, ABOVE)

    def test_zeros(self):
        for zero in ZERO_ROWS:
            self.check(zero, 0, ALIKE)
            self.check(zero, 1, BELOW)
            self.check(zero, -1, ABOVE)
        self.check(ONE, 0, ABOVE)
        self.check(minus(ONE), 0, BELOW)

    def test_every_sort(self):
        for n in (0, 1, -1, 7) + ENDS:
            for row in FULL_ROWS + SMALL_ROWS + ZERO_ROWS:
                self.check(row, n, order(value_of_row(row), n), small_flag(row))
            self.check(INFINITE, n, ABOVE)
            self.check(minus(INFINITE), n, BELOW)

    def test_what_is_none_is_strict(self):
        for n in (0, 5) + ENDS:
            self.check(NONE_ROW, n, ONE_IS_NONE, 1)

    def test_ways_and_lengths_do_not_count(self):
        rows = [whole_row(2147483647)]
        for way in range(4):
            for length in range(3):
                check_outcome(self, against(2147483647), rows, (ALIKE, 0, rows), way, length)
                check_outcome(self, against(2147483646), rows, (ABOVE, 0, rows), way, length)

    def test_refusals(self):
        for n in (0, 1) + ENDS:
            check_refused(self, [], against(n), -4)
            check_refused(self, wholes(1, 2) + [free(0)], against(n), -4)

    def test_outside_its_range(self):
        for n in (-2147483649, 2147483648):
            check_refused(self, [], against(n), -2)
            check_refused(self, wholes(1), against(n), -2)


def parts_beside(n, more):
    """The parts of the number next to a whole one, the one further from 0 or the one nearer."""
    whole = int.from_bytes(bytes(whole_row(n)), "little")
    exponent, bits = whole >> 64 & 32767, whole & ALL_BITS
    if more < 0 and bits == TOP_BIT:
        return int(n < 0), exponent - 1, ALL_BITS
    return int(n < 0), exponent, bits + more


class Flags(unittest.TestCase):
    def test_flags_gather(self):
        calls = [load(LEAST), load(NONE_ROW), compare(1, 1), [8], against(0), TOLD]
        got = run(*calls)
        self.assertEqual((got[2], got[4], got[5][3]), ([3], [2], 3))

    def test_refusals_leave_the_flags(self):
        check_refused(self, [control(1, 1), load(LEAST), against(0)], compare(1, 3), -4)


if __name__ == "__main__":
    unittest.main()
