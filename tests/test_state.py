"""begin, control, flags, told, swap, turn, free, copy, and the ring that all go round (points 1, 2, 3, 6)."""

import unittest

from helper import (BEGIN, BITS, EMPTY_ROW, ENDS, STORE, TOLD, check_refused, control, copy, double, flags, free, last,
                    run, swap, to_int, told_of, turn, whole_row, wholes)

SMALL_DOUBLE = 1
FULL = range(1, 9)


class Begin(unittest.TestCase):
    def test_new(self):
        self.assertEqual(run(TOLD), [told_of(0, 2, 0, [])])

    def test_in_the_middle(self):
        got = run(control(3, 0), double(SMALL_DOUBLE), *wholes(1, 2), BEGIN, TOLD, flags())
        self.assertEqual(got[-3:], [[0], told_of(0, 2, 0, []), [0]])

    def test_twice_and_of_a_full_ring(self):
        self.assertEqual(run(*wholes(*FULL), BEGIN, BEGIN, TOLD)[-3:], [[0], [0], told_of(0, 2, 0, [])])


class Control(unittest.TestCase):
    def test_all_ways_and_lengths(self):
        for way in range(4):
            for length in range(3):
                self.assertEqual(run(control(way, length), TOLD), [[0], told_of(way, length, 0, [])])

    def test_leaves_the_rest(self):
        self.assertEqual(last(double(SMALL_DOUBLE), STORE, *wholes(5), control(1, 1), TOLD),
                         told_of(1, 1, 2, [whole_row(5)]))

    def test_refusals(self):
        before = [control(2, 1), *wholes(4)]
        for wrong in (-1, 4, 5) + ENDS:
            check_refused(self, before, control(wrong, 0), -2)
        for wrong in (-1, 3, 4) + ENDS:
            check_refused(self, before, control(0, wrong), -2)
        check_refused(self, before, control(4, 3), -2)


class Flags(unittest.TestCase):
    def test_none_at_first(self):
        self.assertEqual(run(flags(0), flags(1)), [[0], [0]])

    def test_stay_till_cleared(self):
        got = run(double(SMALL_DOUBLE), flags(0), flags(0), flags(1), flags(0), TOLD)
        self.assertEqual(got[1:5], [[2], [2], [2], [0]])
        self.assertEqual(got[5][3], 0)

    def test_sum_of_several(self):
        # A small double, then one that isn't whole made so, then what is too great for int.
        calls = [double(SMALL_DOUBLE), to_int(0), flags(), double(0x7FE0000000000000), to_int(0), flags(), TOLD]
        got = run(*calls)
        self.assertEqual(got[2], [34])
        self.assertEqual(got[5], [35])
        self.assertEqual(got[6][3], 35)

    def test_same_flag_twice_counts_once(self):
        self.assertEqual(run(double(1), flags(), double(1), flags(), double(3), flags())[1::2], [[2], [2], [2]])

    def test_clearing_leaves_the_rest(self):
        self.assertEqual(last(control(3, 1), double(SMALL_DOUBLE), STORE, *wholes(6), flags(1), TOLD),
                         told_of(3, 1, 0, [whole_row(6)]))

    def test_refusals(self):
        for wrong in (-1, 2, 3) + ENDS:
            check_refused(self, [double(SMALL_DOUBLE)], flags(wrong), -2)


class Told(unittest.TestCase):
    def test_changes_nothing(self):
        got = run(control(1, 0), double(SMALL_DOUBLE), *wholes(9), TOLD, TOLD)
        self.assertEqual(got[-1], got[-2])

    def test_empty_row(self):
        self.assertEqual(last(TOLD)[4:14], EMPTY_ROW)
        self.assertEqual(last(*wholes(1), TOLD)[14:24], EMPTY_ROW)

    def test_top_first(self):
        self.assertEqual(last(*wholes(1, 2, 3), TOLD), told_of(0, 2, 0, [whole_row(n) for n in (3, 2, 1)]))

    def test_full(self):
        self.assertEqual(last(*wholes(*range(1, 9)), TOLD),
                         told_of(0, 2, 0, [whole_row(n) for n in range(8, 0, -1)]))

    def test_round_the_ring(self):
        calls = []
        kept = []
        for n in range(1, 31):
            if len(kept) == 8 or n % 4 == 0:
                calls.append(STORE)
                kept = kept[1:]
            calls += wholes(n)
            kept = [n] + kept
            self.assertEqual(last(*calls, TOLD), told_of(0, 2, 0, [whole_row(k) for k in kept]))

    def test_pop_empties(self):
        for pop in (STORE, BITS, to_int(0)):
            self.assertEqual(last(*wholes(1, 2, 3), pop, TOLD), told_of(0, 2, 0, [whole_row(2), whole_row(1)]))

    def test_pushed_again_after_pops(self):
        calls = wholes(*range(1, 9)) + [STORE] * 3 + wholes(11, 12)
        rows = [whole_row(n) for n in (12, 11, 5, 4, 3, 2, 1)]
        self.assertEqual(last(*calls, TOLD), told_of(0, 2, 0, rows))


class Swap(unittest.TestCase):
    def test_each(self):
        for i in range(8):
            numbers = [8, 7, 6, 5, 4, 3, 2, 1]
            numbers[0], numbers[i] = numbers[i], numbers[0]
            self.assertEqual(run(*wholes(*range(1, 9)), swap(i), TOLD)[-2:],
                             [[0], told_of(0, 2, 0, [whole_row(n) for n in numbers])])

    def test_twice_is_as_before(self):
        self.assertEqual(last(*wholes(1, 2, 3), swap(2), swap(2), TOLD), last(*wholes(1, 2, 3), TOLD))

    def test_sets_no_flags(self):
        self.assertEqual(last(double(SMALL_DOUBLE), flags(1), *wholes(1), swap(1), flags()), [0])

    def test_refusals(self):
        for wrong in (-1, 8, -8) + ENDS:
            check_refused(self, wholes(1, 2), swap(wrong), -2)
            check_refused(self, [], swap(wrong), -2)
        for i in range(8):
            check_refused(self, [], swap(i), -4)
        for i in range(2, 8):
            check_refused(self, wholes(1, 2), swap(i), -4)

    def test_empty_top_is_refused(self):
        for i in range(8):
            check_refused(self, wholes(*FULL) + [free(0)], swap(i), -4)
            check_refused(self, wholes(*FULL) + [free(i)], swap(i), -4)

    def test_over_a_gap(self):
        self.assertEqual(last(*wholes(1, 2, 3), free(1), swap(2), TOLD),
                         told_of(0, 2, 0, [whole_row(1), EMPTY_ROW, whole_row(3)]))


class Turn(unittest.TestCase):
    def check(self, steps, numbers):
        """The ring that has these numbers, None for what is empty, is turned."""
        calls = wholes(*FULL) + [free(k) for k in range(8) if numbers[k] is None]
        rows = [EMPTY_ROW if n is None else whole_row(n) for n in numbers]
        turned = [rows[(k + steps) % 8] for k in range(8)]
        self.assertEqual(run(*calls, turn(steps), TOLD)[-2:], [[0], told_of(0, 2, 0, turned)], (steps, numbers))

    def test_every_step(self):
        for steps in range(-7, 8):
            self.check(steps, [8, 7, 6, 5, 4, 3, 2, 1])
            self.check(steps, [8, None, 6, None, None, 3, 2, None])
            self.check(steps, [None, None, None, 5, 4, None, None, 1])
            self.check(steps, [None] * 8)

    def test_by_one(self):
        self.assertEqual(last(*wholes(1, 2, 3), turn(1), TOLD),
                         told_of(0, 2, 0, [whole_row(2), whole_row(1)] + [EMPTY_ROW] * 5 + [whole_row(3)]))
        self.assertEqual(last(*wholes(1, 2, 3), turn(-1), TOLD),
                         told_of(0, 2, 0, [EMPTY_ROW, whole_row(3), whole_row(2), whole_row(1)]))

    def test_there_and_back(self):
        for steps in range(-7, 8):
            self.assertEqual(last(*wholes(1, 2, 3), turn(steps), turn(-steps), TOLD), last(*wholes(1, 2, 3), TOLD))

    def test_leaves_the_rest(self):
        self.assertEqual(last(control(1, 0), double(SMALL_DOUBLE), free(0), *wholes(5), turn(-3), TOLD),
                         told_of(1, 0, 2, [EMPTY_ROW] * 3 + [whole_row(5)]))

    def test_pushes_and_pops_behind_it(self):
        # The top, taken out of its place, leaves the last one taken, so that nothing can be pushed.
        check_refused(self, wholes(1, 2) + [turn(1)], [5, 3], -5)
        self.assertEqual(last(*wholes(1, 2), turn(-2), *wholes(3), TOLD),
                         told_of(0, 2, 0, [whole_row(3), EMPTY_ROW, EMPTY_ROW, whole_row(2), whole_row(1)]))
        self.assertEqual(last(*wholes(1, 2, 3), turn(1), STORE, TOLD),
                         told_of(0, 2, 0, [whole_row(1)] + [EMPTY_ROW] * 5 + [whole_row(3)]))

    def test_refusals(self):
        for wrong in (-9, -8, 8, 9) + ENDS:
            check_refused(self, wholes(1, 2), turn(wrong), -2)
            check_refused(self, [], turn(wrong), -2)


class Free(unittest.TestCase):
    def test_each_of_a_full_ring(self):
        for i in range(8):
            rows = [whole_row(n) for n in reversed(FULL)]
            rows[i] = EMPTY_ROW
            self.assertEqual(run(*wholes(*FULL), free(i), TOLD)[-2:], [[0], told_of(0, 2, 0, rows)])

    def test_what_is_empty_already(self):
        for i in range(8):
            self.assertEqual(run(free(i), TOLD), [[0], told_of(0, 2, 0, [])])
            calls = wholes(*FULL) + [free(2), free(5), free(i)]
            rows = [EMPTY_ROW if 8 - k in (6, 3) or k == i else whole_row(8 - k) for k in range(8)]
            self.assertEqual(run(*calls, free(i), TOLD)[-2:], [[0], told_of(0, 2, 0, rows)])

    def test_leaves_the_rest(self):
        self.assertEqual(last(control(2, 1), double(SMALL_DOUBLE), *wholes(5), free(1), TOLD),
                         told_of(2, 1, 2, [whole_row(5)]))

    def test_makes_room(self):
        self.assertEqual(run(*wholes(*FULL), free(7), *wholes(9), TOLD)[-2:],
                         [[0], told_of(0, 2, 0, [whole_row(n) for n in range(9, 1, -1)])])
        check_refused(self, wholes(*FULL) + [free(6)], [5, 9], -5)

    def test_the_top_stays_where_it_is(self):
        check_refused(self, wholes(1, 2) + [free(0)], STORE, -4)

    def test_refusals(self):
        for wrong in (-1, 8, -8) + ENDS:
            check_refused(self, wholes(1, 2), free(wrong), -2)
            check_refused(self, [], free(wrong), -2)


class Copy(unittest.TestCase):
    def test_each(self):
        for i in range(7):
            rows = [whole_row(n) for n in range(7, 0, -1)]
            self.assertEqual(run(*wholes(*range(1, 8)), copy(i), TOLD)[-2:],
                             [[0], told_of(0, 2, 0, [rows[i]] + rows)])

    def test_sets_no_flags(self):
        self.assertEqual(last(double(SMALL_DOUBLE), flags(1), copy(0), flags()), [0])

    def test_refusals(self):
        full = wholes(*range(1, 9))
        for wrong in (-1, 8, 9) + ENDS:
            check_refused(self, [], copy(wrong), -2)
            check_refused(self, full, copy(wrong), -2)
        for i in range(8):
            check_refused(self, [], copy(i), -4)
            check_refused(self, full, copy(i), -5)
        check_refused(self, wholes(1, 2), copy(2), -4)

    def test_empty_counts_before_full(self):
        for i in range(7):
            before = wholes(*FULL) + [free(i)]
            check_refused(self, before, copy(i), -4)
            check_refused(self, before, copy(i + 1), -5)
            check_refused(self, before, copy(8), -2)
        check_refused(self, wholes(1) + [turn(1)], copy(0), -4)
        check_refused(self, wholes(1) + [turn(1)], copy(7), -5)

    def test_over_a_gap(self):
        self.assertEqual(last(*wholes(1, 2, 3), free(0), copy(2), TOLD),
                         told_of(0, 2, 0, [whole_row(1), EMPTY_ROW, whole_row(2), whole_row(1)]))


if __name__ == "__main__":
    unittest.main()
