"""The form of what is handed in and given back."""

import unittest

from ringreckon.reckoner import answers

from helper import (BEGIN, BITS, GREATEST, KIND, LEAST, NEAR, NONE_ROW, ROOT, SCALE, SPLIT, STORE, TOLD, against,
                    compare, control, copy, do, double, flags, free, load, minus, rest, row_of, run, set_sign, split,
                    swap, to_int, turn, whole)

EVERY_CALL = (BEGIN + control(2, 1) + whole(3) + double(1) + load(row_of(1, 16382, 3 << 62)) + copy(2) + swap(1)
              + TOLD + flags(0) + to_int(4) + BITS + STORE + flags(1) + swap(9) + STORE + STORE
              + whole(40) + whole(9) + ROOT + do(4, 1, 1) + NEAR + SCALE + SPLIT + turn(-7) + turn(7) + free(2)
              + rest(1) + set_sign(1) + compare(1, 0) + against(-5) + KIND + rest(2) + do(0, 3, 2) + TOLD)


class Interface(unittest.TestCase):
    def test_empty_list(self):
        self.assertEqual(answers([]), [])

    def test_counts_before_answers(self):
        self.assertEqual(answers([0, 5, 1, 10, 2, 0, 8]), [1, 0, 1, 0, 2, 0, 0x3FF0000000000000, 1, 0, 1, -4])

    def test_store_answers_eleven_numbers(self):
        self.assertEqual(answers([0, 5, 1, 8]), [1, 0, 1, 0, 11, 0, 0, 0, 0, 0, 0, 0, 0, 0x80, 0xFF, 0x3F])

    def test_told_answers_84_numbers(self):
        self.assertEqual([len(part) for part in split(answers([0, 3]))], [1, 84])

    def test_int_answers_two_numbers(self):
        self.assertEqual(answers([0, 5, -1, 9, 0]), [1, 0, 1, 0, 2, 0, (1 << 64) - 1])

    def test_answers_of_every_call(self):
        got = split(answers(EVERY_CALL))
        self.assertEqual([len(part) for part in got],
                         [1, 1, 1, 1, 1, 1, 1, 84, 1, 2, 2, 11, 1, 1, 11, 1] + [1] * 17 + [84])
        self.assertEqual([part[0] for part in got[16:33]], [0] * 10 + [2, 0, 1, 2, 4, -2, -2])

    def test_every_call_by_its_number(self):
        """Each call's number and how many numbers it takes, by what is answered behind it."""
        for call in (BEGIN, control(0, 0), flags(), load(LEAST), whole(1), double(2), copy(0), swap(1), turn(1),
                     free(1), do(0, 1, 1), ROOT, NEAR, SCALE, SPLIT, rest(0), set_sign(0), compare(0, 1), against(1),
                     KIND):
            got = run(whole(1), whole(2), call, flags(1), TOLD)
            self.assertEqual([len(part) for part in got], [1, 1, 1, 1, 84], call)

    def test_only_whole_numbers_are_answered(self):
        got = answers(EVERY_CALL)
        self.assertIs(type(got), list)
        self.assertEqual({type(n) for n in got}, {int})

    def test_what_is_handed_in_stays(self):
        calls = list(EVERY_CALL)
        answers(calls)
        self.assertEqual(calls, EVERY_CALL)

    def test_nothing_is_kept_between_runs(self):
        first = answers(EVERY_CALL)
        self.assertEqual(answers(EVERY_CALL), first)
        answers([0] + control(3, 0) + whole(7))
        self.assertEqual(answers([0, 3]), answers([0, 3]))
        self.assertEqual(answers([3])[:5], [84, 0, 0, 2, 0])

    def test_what_is_given_back_is_new(self):
        first = answers([0, 3])
        kept = list(first)
        first.append(1)
        self.assertEqual(answers([0, 3]), kept)

    def test_yes_and_no_are_told_as_numbers(self):
        got = run(whole(1), whole(1), compare(1, 1), against(1), against(2), KIND, load(NONE_ROW), KIND)
        self.assertEqual(got[2:], [[1], [1], [0], [4], [0], [0]])
        self.assertEqual({type(n) for part in got for n in part}, {int})

    def test_400_calls_that_lead_far(self):
        """The longest ways between two numbers, one behind another, come to an end at once."""
        round_trip = load(LEAST) + load(GREATEST) + rest(1) + SCALE + do(0, 1) + do(4, 1) + ROOT + STORE + STORE
        far = load(minus(GREATEST)) + load(GREATEST) + SCALE + STORE + STORE
        calls = BEGIN + round_trip * 28 + far * 29
        self.assertEqual(len(split(answers(calls))), 1 + 28 * 9 + 29 * 5)

    def test_400_calls(self):
        calls = BEGIN + whole(5) * 8 + (STORE + whole(9)) * 195 + TOLD
        got = split(answers(calls))
        self.assertEqual(len(got), 400)
        self.assertEqual(got[-1][4:14], row_of(0, 16386, 9 << 60))


if __name__ == "__main__":
    unittest.main()
