"""Of point 3: card."""

import unittest

from tests.lines import (LEAST, MOST, alike, begin, behind, card, clear, fail, height, jump, jumps, last, leave, off,
                         run, skip)


class CardTest(unittest.TestCase):

    def test_nobodys_jumps_yet(self):
        self.assertEqual(run(begin(2), card(0), card(1))[1:], [[0, 0, 0], [0, 0, 0]])

    def test_each_jump_in_its_order_with_its_height(self):
        self.assertEqual(last(begin(1), *jumps('xxo - xo x'), card(0)),
                         [120, 1, 0, 100, 0, 100, 0, 100, 1, 110, 2, 120, 0, 120, 1, 125, 0])

    def test_each_ones_own_jumps(self):
        told = run(begin(3), *jumps('xo- o -x'), card(0), card(1), card(2))
        self.assertEqual(told[-3:], [[100, 0, 0, 100, 0, 100, 1, 110, 2], [100, 1, 0, 100, 1, 110, 0],
                                     [0, 0, 0, 100, 2]])

    def test_greatest_height_cleared(self):
        cleared = [last(begin(1), *jumps(hows), card(0))[0] for hows in ('x', '-', 'o', 'ox', 'o-', 'oo', 'oo-o')]
        self.assertEqual(cleared, [0, 0, 100, 100, 100, 110, 125])

    def test_greatest_height_cleared_where_the_bar_was_put(self):
        self.assertEqual(last(begin(1), height(237), clear(), card(0)), [237, 0, 0, 237, 1])
        self.assertEqual(last(begin(1), height(60), *jumps('ox'), card(0)), [60, 1, 0, 60, 1, 100, 0])

    def test_a_refused_jump_is_not_told(self):
        self.assertEqual(last(begin(1), height(950), skip(), jump(3), jump(-1), fail(), card(0)), [0, 1, 0, 950, 0])

    def test_card_changes_nothing(self):
        told = run(begin(1), fail(), card(0), card(0), fail())
        self.assertEqual(told[2:], [[0, 1, 0, 100, 0], [0, 1, 0, 100, 0], [0, 0, 100]])


class FailuresTest(unittest.TestCase):
    """How many failures they have one behind another now."""

    def failures(self, hows):
        return last(begin(1), *jumps(hows), card(0))[1]

    def test_at_one_height(self):
        self.assertEqual([self.failures(hows) for hows in ('x', 'xx', 'xxx')], [1, 2, 3])

    def test_at_several_heights_with_passes_in_between(self):
        self.assertEqual([self.failures(hows) for hows in ('x-', 'x-x', 'x--x', 'xx-', 'x-x-x', 'xx---x', '-x')],
                         [1, 2, 2, 2, 3, 3, 1])

    def test_back_to_a_cleared_height(self):
        self.assertEqual([self.failures(hows) for hows in ('o', 'xo', 'xxo', 'xxox', 'xxo-x', 'x-ox-x', 'xxo-')],
                         [0, 0, 0, 1, 1, 2, 0])

    def test_they_stay_when_the_bar_is_put_elsewhere(self):
        self.assertEqual(last(begin(1), *jumps('xx'), height(300), card(0)), [0, 2, 0, 100, 0, 100, 0])


class OutTest(unittest.TestCase):

    def test_who_has_failed_three_times(self):
        self.assertEqual(last(begin(1), *jumps('oxx'), card(0))[:3], [100, 2, 0])
        self.assertEqual(last(begin(1), *jumps('oxxx'), card(0)), [100, 3, 1, 100, 1, 110, 0, 110, 0, 110, 0])
        self.assertEqual(run(begin(2), *jumps('oxxx'), card(0), card(1))[-2:],
                         [[100, 0, 0, 100, 1], [0, 3, 1, 100, 0, 100, 0, 100, 0]])

    def test_three_failures_that_are_not_one_behind_another(self):
        self.assertEqual(last(begin(1), *jumps('xxo xo'), card(0))[:3], [110, 0, 0])

    def test_who_has_left(self):
        told = run(begin(3), *jumps('xo'), leave(0), leave(2), card(0), card(1), card(2))
        self.assertEqual(told[-3:], [[0, 1, 1, 100, 0], [100, 0, 0, 100, 1], [0, 0, 1]])


class JumpOffTest(unittest.TestCase):

    def test_of_the_contest_alone(self):
        contest = [[100, 3, 1, 100, 1, 105, 0, 105, 0, 105, 0]]
        calls = alike(3)
        self.assertEqual(behind(calls, card(0)), contest)
        self.assertEqual(behind([*calls, off(0)], card(0)), contest)
        # Its rounds: all clear, none clears, 0 and 2 clear, 0 alone clears.
        jumped = jumps('ooo xxx oxo ox')
        for many in range(len(jumped) + 1):
            for athlete in (0, 1, 2):
                self.assertEqual(behind([*calls, off(), *jumped[:many]], card(athlete)), contest)

    def test_who_left_in_it(self):
        calls = [begin(2), *jumps('oo'), leave(0), leave(1), off()]
        self.assertEqual(behind(calls, fail(), card(0), clear(), card(1)),
                         [[0, 2, 110], [100, 0, 1, 100, 1], [1, 3, 110], [100, 0, 1, 100, 1]])


class RefusalTest(unittest.TestCase):

    def test_no_such_athlete(self):
        for number in (-1, 2, 3, 20, -2, LEAST, MOST):
            self.assertEqual(run(begin(2), card(number))[1:], [[-1]])
        self.assertEqual(run(begin(20), card(19), card(20))[1:], [[0, 0, 0], [-1]])
        self.assertEqual(run(begin(1), card(0), card(1))[1:], [[0, 0, 0], [-1]])

    def test_ahead_of_any_begin(self):
        self.assertEqual(run(card(0), card(1), card(-1), begin(21), card(0)), [[-1]] * 5)

    def test_in_every_phase(self):
        calls = alike(2)
        for more in ([], [off(0)], [off(1)], [off(1), *jumps('ox')]):
            self.assertEqual(behind([*calls, *more], card(2), card(-1)), [[-1], [-1]])


if __name__ == '__main__':
    unittest.main()
