"""The one list that calls come in, and the one list that's given back."""

import unittest

from jumpcontest.contest import answers
from tests.lines import LEAST, MOST, begin, clear, fail, height, jumps, last, leave, run, skip, up


class FormTest(unittest.TestCase):

    def test_counts_stand_ahead_of_each_answer(self):
        calls = begin(2, 5, 2, [100]) + up() + fail() + leave(0) + height(101)
        self.assertEqual(answers(calls), [1, 0, 3, 0, 100, 1, 3, 0, 0, 100, 3, 0, 0, 100, 3, 1, 0, 101])

    def test_a_refusal_is_its_number_alone(self):
        calls = up() + fail() + leave(0) + height(100) + begin(0)
        self.assertEqual(answers(calls), [1, -4, 1, -4, 1, -1, 1, -4, 1, -1])

    def test_one_call_alone(self):
        self.assertEqual(answers([2]), [1, -4])
        self.assertEqual(answers([1, 1, 1, 1, 1, 50]), [1, 0])

    def test_numbers_of_begin_stand_in_their_order(self):
        # Only in this order do athletes 20, rise 3 and turn 10 all lie within their ranges.
        self.assertEqual(run([1, 20, 3, 10, 1, 60], *jumps('-' * 20))[-1], [19, 0, 63])
        self.assertEqual(run([1, 10, 3, 20, 1, 60]), [[-1]])

    def test_row_is_read_by_its_length(self):
        # The heights look like calls here, and the empty row is followed by one.
        self.assertEqual(run([1, 2, 5, 2, 2, 2, 2], [2]), [[-1], [-4]])
        self.assertEqual(run([1, 2, 5, 2, 0], [2]), [[-1], [-4]])
        self.assertEqual(run([1, 2, 5, 2, 40] + [2] * 40, [2]), [[-1], [-4]])

    def test_numbers_at_the_ends_of_the_range(self):
        for number in (LEAST, MOST):
            told = run(begin(), [3, number], leave(number), height(number), begin(number), begin(2, number),
                       begin(2, 5, number), begin(2, 5, 2, [number]), begin(2, 5, 2, [100, number]), up())
            self.assertEqual(told, [[0]] + [[-1]] * 8 + [[0, 100, 1]])

    def test_line_of_250_calls(self):
        told = run(begin(1, 1, 1, [50]), *([clear()] * 249))
        self.assertEqual(len(told), 250)
        self.assertEqual(told[-1], [0, 0, 299])

    def test_what_is_handed_in_stays(self):
        calls = begin() + up() + clear() + fail() + skip() + leave(0) + height(300) + begin(0)
        handed = list(calls)
        answers(handed)
        self.assertEqual(handed, calls)

    def test_nothing_is_kept_from_one_time_to_the_next(self):
        calls = up() + begin() + clear() + up()
        first = answers(calls)
        self.assertEqual(answers(calls), first)
        self.assertEqual(answers(up()), [1, -4])

    def test_a_list_of_plain_whole_numbers_is_given_back(self):
        told = answers(begin() + up() + clear() + leave(1) + height(300) + fail() + height(1))
        self.assertIs(type(told), list)
        self.assertEqual({type(number) for number in told}, {int})


class NoContestTest(unittest.TestCase):
    """At a line's beginning it's as if a contest without athletes were over, the bar at 0."""

    def test_nobody_is_up(self):
        self.assertEqual(last(up()), [-4])
        for how in (0, 1, 2):
            self.assertEqual(last([3, how]), [-4])

    def test_wrong_numbers_are_told_first(self):
        self.assertEqual(last([3, 3]), [-1])
        self.assertEqual(last([3, -1]), [-1])
        self.assertEqual(last(leave(0)), [-1])
        self.assertEqual(last(height(49)), [-1])
        self.assertEqual(last(height(1000)), [-1])

    def test_no_bar_to_be_put(self):
        self.assertEqual(last(height(50)), [-4])
        self.assertEqual(last(height(999)), [-4])


if __name__ == '__main__':
    unittest.main()
