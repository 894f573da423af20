"""Of point 3: leave."""

import unittest

from tests.lines import begin, clear, fail, height, jumps, last, leave, run, up


class LeaveTest(unittest.TestCase):

    def test_answers_0_then_phase_and_bar(self):
        self.assertEqual(run(begin(3), leave(2), leave(1), leave(0))[1:], [[0, 0, 100], [0, 0, 100], [0, 3, 100]])

    def test_who_has_left_is_not_up(self):
        self.assertEqual(last(begin(3), leave(0), up()), [1, 100, 1])
        told = run(begin(3), leave(1), *jumps('xxxx'))
        self.assertEqual([answer[0] for answer in told[2:]], [0, 2, 0, 2])

    def test_who_is_not_up_may_leave(self):
        self.assertEqual(run(begin(3), leave(1), up())[1:], [[0, 0, 100], [0, 100, 1]])

    def test_who_has_cleared_the_bar_may_leave(self):
        told = run(begin(3), clear(), leave(0), *jumps('oo'), up())
        self.assertEqual(told[2:], [[0, 0, 100], [1, 0, 100], [2, 0, 110], [1, 110, 1]])

    def test_bar_goes_up_when_the_last_due_leaves(self):
        self.assertEqual(run(begin(2), clear(), leave(1), up())[2:], [[0, 0, 110], [0, 110, 1]])
        self.assertEqual(run(begin(2), *jumps('-'), leave(1), up())[2:], [[0, 0, 110], [0, 110, 1]])

    def test_bar_stays_while_somebody_is_due(self):
        self.assertEqual(run(begin(3), clear(), leave(1), up())[2:], [[0, 0, 100], [2, 100, 1]])

    def test_bar_stays_when_the_last_one_leaves(self):
        self.assertEqual(last(begin(2), *jumps('oo'), leave(0), leave(1)), [0, 1, 110])
        self.assertEqual(last(begin(2), *jumps('oxxx'), leave(0)), [0, 3, 110])

    def test_phase_when_the_last_one_leaves(self):
        self.assertEqual(last(begin(2), leave(0), leave(1)), [0, 3, 100])
        self.assertEqual(last(begin(2), *jumps('oo'), leave(1), leave(0)), [0, 1, 110])
        self.assertEqual(last(begin(2), *jumps('oo xo'), leave(0), leave(1)), [0, 3, 120])


class RefusalTest(unittest.TestCase):

    def test_no_such_athlete(self):
        for number in (-1, 2, 3, 20, -2):
            self.assertEqual(run(begin(2), leave(number), up())[1:], [[-1], [0, 100, 1]])
        self.assertEqual(last(begin(1), leave(1)), [-1])
        self.assertEqual(last(begin(20), leave(19)), [0, 0, 100])

    def test_not_when_it_is_over(self):
        over = [begin(2), *jumps('xxxxxx')]
        self.assertEqual(run(*over, leave(0), leave(1), leave(2), leave(-1))[-4:], [[-4], [-4], [-1], [-1]])

    def test_not_when_first_ones_are_alike(self):
        alike = [begin(2), *jumps('oo'), leave(0), leave(1)]
        self.assertEqual(run(*alike, leave(0), leave(1), leave(2))[-4:], [[0, 1, 110], [-4], [-4], [-1]])

    def test_not_who_has_left(self):
        self.assertEqual(run(begin(2), leave(0), leave(0))[1:], [[0, 0, 100], [-5]])

    def test_not_who_has_failed_three_times(self):
        self.assertEqual(run(begin(2), *jumps('oxxx'), leave(1), leave(0))[-2:], [[-5], [0, 3, 110]])
        self.assertEqual(last(begin(2), *jumps('xoxo x-x'), leave(0)), [0, 0, 120])

    def test_a_refusal_changes_nothing(self):
        told = run(begin(3), fail(), leave(1), leave(1), leave(3), leave(-1), up(), clear(), up())
        self.assertEqual(told[2:], [[0, 0, 100], [-5], [-1], [-1], [2, 100, 1], [2, 0, 100], [0, 100, 2]])
        over = [begin(1), leave(0)]
        self.assertEqual(run(*over, leave(0), up(), height(200))[-3:], [[-4], [-4], [-4]])


if __name__ == '__main__':
    unittest.main()
