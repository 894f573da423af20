"""The one list that calls come in, and the one list that's given back."""

import unittest

from jumpcontest.contest import answers
from tests.lines import (LEAST, MOST, alike, begin, card, clear, fail, height, jumps, last, leave, now, off, order, run,
                         skip, two, up)


class FormTest(unittest.TestCase):

    def test_counts_stand_ahead_of_each_answer(self):
        calls = begin(2, 5, 2, [100]) + up() + fail() + leave(0) + height(101)
        self.assertEqual(answers(calls), [1, 0, 3, 0, 100, 1, 3, 0, 0, 100, 3, 0, 0, 100, 3, 1, 0, 101])

    def test_counts_stand_ahead_of_the_longer_answers(self):
        calls = begin(2, 5, 2, [100]) + clear() + card(0) + order() + now() + leave(0) + leave(1)
        self.assertEqual(answers(calls), [1, 0, 3, 0, 0, 100, 5, 100, 0, 0, 100, 1, 4, 1, 0, 1, 100,
                                          4, 0, 100, 0, 1, 3, 0, 0, 100, 3, 0, 3, 100])
        calls = [number for call in alike(2) for number in call]
        self.assertEqual(answers(calls + off(1))[-3:], [2, 2, 105])
        self.assertEqual(answers(calls + off(0))[-2:], [1, 2])
        self.assertEqual(answers(order() + now()), [1, 0, 2, 3, 0])

    def test_a_refusal_is_its_number_alone(self):
        calls = up() + fail() + leave(0) + height(100) + begin(0)
        self.assertEqual(answers(calls), [1, -4, 1, -4, 1, -1, 1, -4, 1, -1])
        self.assertEqual(answers(off(1) + off(2) + card(0)), [1, -4, 1, -1, 1, -1])

    def test_one_call_alone(self):
        self.assertEqual(answers([2]), [1, -4])
        self.assertEqual(answers([1, 1, 1, 1, 1, 50]), [1, 0])

    def test_numbers_of_begin_stand_in_their_order(self):
        # Only in this order do athletes 20, rise 3 and turn 10 all lie within their ranges.
        self.assertEqual(run([1, 20, 3, 10, 1, 60], *jumps('-' * 20))[-1], [19, 0, 63])
        self.assertEqual(run([1, 10, 3, 20, 1, 60]), [[-1]])

    def test_row_is_read_by_its_length(self):
        # The heights look like calls here, and the empty row is followed by one.
        self.assertEqual(run([1, 2, 5, 2, 2, 2, 2], [2]), [[-1], [-4]])
        self.assertEqual(run([1, 2, 5, 2, 0], [2]), [[-1], [-4]])
        self.assertEqual(run([1, 2, 5, 2, 40] + [2] * 40, [2]), [[-1], [-4]])

    def test_numbers_at_the_ends_of_the_range(self):
        for number in (LEAST, MOST):
            told = run(begin(), [3, number], leave(number), height(number), begin(number), begin(2, number),
                       begin(2, 5, number), begin(2, 5, 2, [number]), begin(2, 5, 2, [100, number]), off(number),
                       card(number), up())
            self.assertEqual(told, [[0]] + [[-1]] * 10 + [[0, 100, 1]])

    def test_line_of_250_calls(self):
        told = run(begin(1, 1, 1, [50]), *([clear()] * 249))
        self.assertEqual(len(told), 250)
        self.assertEqual(told[-1], [0, 0, 299])

    def test_line_of_250_calls_with_a_jump_off(self):
        told = run(*alike(2), off(), *([fail()] * 237), now(), order(), card(0))
        self.assertEqual(len(told), 250)
        self.assertEqual(told[-3:], [[2, 0, 0, 1], [2, 0, 1, 100, 1, 1, 100],
                                     [100, 3, 1, 100, 1, 105, 0, 105, 0, 105, 0]])

    def test_what_is_handed_in_stays(self):
        over = [number for call in two() for number in call]
        for calls in (begin() + up() + clear() + fail() + skip() + leave(0) + height(300) + begin(0),
                      over + off(1) + fail() + clear() + card(0) + order() + now() + off(2) + card(3),
                      over + off(0) + order() + now(), order() + now() + off(1) + card(0)):
            handed = list(calls)
            answers(handed)
            self.assertEqual(handed, calls)

    def test_nothing_is_kept_from_one_time_to_the_next(self):
        over = [number for call in two() for number in call]
        for calls in (up() + begin() + clear() + up(), now() + over + off(1) + fail() + order() + now(),
                      order() + over + off(0) + card(1)):
            first = answers(calls)
            self.assertEqual(answers(calls), first)
            self.assertEqual(answers(up() + now() + order() + card(0) + off(1)),
                             [1, -4, 2, 3, 0, 1, 0, 1, -1, 1, -4])

    def test_a_list_given_back_is_the_callers(self):
        first = answers(begin() + now())
        first.append(7)
        self.assertEqual(answers(begin() + now()), [1, 0, 4, 0, 100, 0, 1])

    def test_a_list_of_plain_whole_numbers_is_given_back(self):
        over = [number for call in two() for number in call]
        for calls in (begin() + up() + clear() + leave(1) + height(300) + fail() + height(1),
                      over + now() + off(1) + fail() + clear() + card(0) + order() + now() + off(2) + card(3)):
            told = answers(calls)
            self.assertIs(type(told), list)
            self.assertEqual({type(number) for number in told}, {int})


class NoContestTest(unittest.TestCase):
    """At a line's beginning it's as if a contest without athletes were over, the bar at 0."""

    def test_nobody_is_up(self):
        self.assertEqual(last(up()), [-4])
        for how in (0, 1, 2):
            self.assertEqual(last([3, how]), [-4])

    def test_wrong_numbers_are_told_first(self):
        self.assertEqual(last([3, 3]), [-1])
        self.assertEqual(last([3, -1]), [-1])
        self.assertEqual(last(leave(0)), [-1])
        self.assertEqual(last(height(49)), [-1])
        self.assertEqual(last(height(1000)), [-1])

    def test_nobody_is_in_the_order_or_not_out(self):
        self.assertEqual(run(order(), now()), [[0], [3, 0]])
        self.assertEqual(last(begin(0), fail(), order()), [0])

    def test_no_jump_off_and_no_card(self):
        self.assertEqual(run(off(0), off(1), off(2), card(0), card(-1)), [[-4], [-4], [-1], [-1], [-1]])

    def test_no_bar_to_be_put(self):
        self.assertEqual(last(height(50)), [-4])
        self.assertEqual(last(height(999)), [-4])


if __name__ == '__main__':
    unittest.main()
