"""sign and kind (points 12 and 14)."""

import unittest

from helper import (ENDS, FULL_ROWS, INFINITE_ROWS, KIND, NONE_ROW, NUMBER_ROWS, SMALL_ROWS, TOLD, ZERO_ROWS,
                    check_outcome, check_refused, free, last, load, minus, run, set_sign, sign_in, told_of, turn,
                    whole_row, wholes)


class Sign(unittest.TestCase):
    def check(self, how, row, expected):
        for way in range(4):
            for length in range(3):
                check_outcome(self, set_sign(how), [row, whole_row(-3)], (0, 0, [expected, whole_row(-3)]), way, length)

    def test_without_its_sign(self):
        for row in NUMBER_ROWS:
            self.check(0, row, minus(row) if sign_in(row) else row)

    def test_with_the_other_one(self):
        for row in NUMBER_ROWS:
            self.check(1, row, minus(row))

    def test_what_is_none_stays(self):
        self.check(0, NONE_ROW, NONE_ROW)
        self.check(1, NONE_ROW, NONE_ROW)

    def test_flags_from_before_stay(self):
        self.assertEqual(run([6, 1], set_sign(1), set_sign(0), TOLD)[-1][3], 2)

    def test_refusals(self):
        for before in ([], wholes(-5)):
            for wrong in (-1, 2, 3) + ENDS:
                check_refused(self, before, set_sign(wrong), -2)
        for how in (0, 1):
            check_refused(self, [], set_sign(how), -4)
            check_refused(self, wholes(-1, -2) + [free(0)], set_sign(how), -4)


class Kind(unittest.TestCase):
    def check(self, row, expected):
        """The answer with the sign that the row has, and all as it was."""
        for way in range(4):
            for length in range(3):
                check_outcome(self, KIND, [row, whole_row(3)], (expected, 0, [row, whole_row(3)]), way, length)

    def test_every_sort(self):
        for sort, rows in ((1, INFINITE_ROWS), (2, ZERO_ROWS), (3, SMALL_ROWS), (4, FULL_ROWS)):
            for row in rows:
                self.check(row, sort + 8 * sign_in(row))
                self.check(minus(row), sort + 8 - 8 * sign_in(row))

    def test_what_is_none(self):
        self.check(NONE_ROW, 0)
        self.assertEqual(last(load([1, 0, 0, 0, 0, 0, 0, 0x80, 0xFF, 0x7F]), KIND), [0])

    def test_empty_top(self):
        self.assertEqual(run(KIND, TOLD), [[16], told_of(0, 2, 0, [])])
        self.assertEqual(last(*wholes(1, 2), free(0), KIND), [16])
        self.assertEqual(last(*wholes(1, 2), turn(-1), KIND), [16])
        self.assertEqual(last(*wholes(*range(1, 9)), free(0), KIND), [16])

    def test_only_the_top_counts(self):
        self.assertEqual(last(*wholes(-1, 0), free(1), KIND), [2])


if __name__ == "__main__":
    unittest.main()
