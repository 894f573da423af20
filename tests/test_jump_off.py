"""A jump-off: who's up, where its bar is, who goes out of it, when it's over."""

import unittest

from jumpcontest.line import Line
from jumpcontest.reading import read_calls
from tests.lines import begin, fail, height, jumps, leave, run, skip, up


def jump_off_after(*calls):
    """A line that's in the jump-off behind these calls."""
    line = Line()
    tell(line, *calls)
    line.contest.start_jump_off()
    return line


def tell(line, *calls):
    """The answers to these calls, as the line goes on."""
    return [line.answer(*read) for read in read_calls([number for call in calls for number in call])]


def two(turn=2):
    """Athletes 0 and 2 of three are alike at 110; 1 is behind. The contest ended at 120."""
    return jump_off_after(begin(3, 5, turn, [100, 110, 120]), *jumps('ooo oxoxx xxxxxx'))


def three(turn=3, rise=5, heights=(100,)):
    return jump_off_after(begin(3, rise, turn, heights), *jumps('ooo' + 'x' * 9))


class StartTest(unittest.TestCase):

    def test_the_contest_ahead_of_it(self):
        self.assertEqual(run(begin(3), *jumps('ooo oxoxx xxxxxx'))[-1], [2, 1, 120])

    def test_begins_at_the_height_behind_the_greatest_cleared(self):
        self.assertEqual(tell(two(), up()), [[0, 120, 1]])
        self.assertEqual(tell(three(), up()), [[0, 105, 1]])
        self.assertEqual(tell(three(3, 20), up()), [[0, 120, 1]])
        self.assertEqual(tell(three(3, 5, [100, 101]), up()), [[0, 101, 1]])

    def test_begins_there_wherever_the_bar_was_last(self):
        line = jump_off_after(begin(2), *jumps('oo -- xxxxxx'))
        self.assertEqual(tell(line, up(), fail()), [[0, 110, 1], [0, 2, 110]])
        line = jump_off_after(begin(2), *jumps('oo'), leave(0), height(300), *jumps('xxx'))
        self.assertEqual(tell(line, up()), [[0, 110, 1]])

    def test_those_who_left_are_in_it(self):
        line = jump_off_after(begin(3), *jumps('ooo'), leave(0), leave(2), leave(1))
        self.assertEqual([answer[0] for answer in tell(line, *jumps('xxx'))], [0, 1, 2])


class RoundTest(unittest.TestCase):

    def test_each_has_one_jump_in_the_order_of_numbers(self):
        self.assertEqual(tell(two(), up(), fail(), up(), fail(), up()),
                         [[0, 120, 1], [0, 2, 120], [2, 120, 1], [2, 2, 118], [0, 118, 1]])

    def test_if_one_alone_clears_it_is_over(self):
        self.assertEqual(tell(two(), *jumps('ox')), [[0, 2, 120], [2, 3, 120]])
        self.assertEqual(tell(two(), *jumps('xo')), [[0, 2, 120], [2, 3, 120]])
        self.assertEqual(tell(three(), *jumps('xox')), [[0, 2, 105], [1, 2, 105], [2, 3, 105]])

    def test_bar_behind_it_is_the_contests(self):
        line = jump_off_after(begin(2), *jumps('oo -- xxxxxx'))
        self.assertEqual(tell(line, *jumps('xx ox')), [[0, 2, 110], [1, 2, 108], [0, 2, 108], [1, 3, 120]])

    def test_if_several_clear_the_others_are_out_of_it(self):
        self.assertEqual(tell(three(), *jumps('oxo'), up(), *jumps('ox')),
                         [[0, 2, 105], [1, 2, 105], [2, 2, 108], [0, 108, 1], [0, 2, 108], [2, 3, 105]])
        self.assertEqual([answer[0] for answer in tell(three(), *jumps('xoo xx oo xo'))],
                         [0, 1, 2, 1, 2, 1, 2, 1, 2])

    def test_if_all_clear_all_go_on(self):
        self.assertEqual(tell(three(), *jumps('ooo xxx'), up())[2:],
                         [[2, 2, 108], [0, 2, 108], [1, 2, 108], [2, 2, 105], [0, 105, 1]])

    def test_if_none_clears_all_go_on_lower(self):
        self.assertEqual(tell(three(10), *jumps('xxx xxx'), up())[2:],
                         [[2, 2, 95], [0, 2, 95], [1, 2, 95], [2, 2, 85], [0, 85, 1]])

    def test_the_bar_goes_up_and_down_by_turn(self):
        for turn in (1, 2, 10):
            self.assertEqual(tell(two(turn), *jumps('oo'))[-1], [2, 2, 120 + turn])
            self.assertEqual(tell(two(turn), *jumps('xx'))[-1], [2, 2, 120 - turn])

    def test_the_bar_goes_down_to_0_at_the_least(self):
        line = jump_off_after(begin(2, 4, 10, [50]), *jumps('oo xxxxxx'))
        told = tell(line, *jumps('xx' * 7))
        self.assertEqual([answer[2] for answer in told[1::2]], [44, 34, 24, 14, 4, 0, 0])
        self.assertEqual(tell(line, up(), *jumps('oo')), [[0, 0, 1], [0, 2, 0], [1, 2, 10]])

    def test_more_than_three_failures_are_taken(self):
        told = tell(two(), *jumps('xx' * 10))
        self.assertEqual(told[-1], [2, 2, 100])


class RefusalTest(unittest.TestCase):

    def test_no_pass(self):
        self.assertEqual(tell(two(), skip(), up(), fail(), skip(), up()),
                         [[-5], [0, 120, 1], [0, 2, 120], [-5], [2, 120, 1]])

    def test_how_is_told_first(self):
        self.assertEqual(tell(two(), [3, 3], [3, -1], up()), [[-1], [-1], [0, 120, 1]])

    def test_no_leaving_and_no_bar_to_be_put(self):
        self.assertEqual(tell(two(), leave(0), leave(1), leave(3), height(300), height(49), up()),
                         [[-4], [-4], [-1], [-4], [-1], [0, 120, 1]])

    def test_nobody_is_up_behind_it(self):
        self.assertEqual(tell(two(), *jumps('ox'), up(), *jumps('xo-'), [3, 3], leave(0), height(300))[2:],
                         [[-4], [-4], [-4], [-4], [-1], [-4], [-4]])

    def test_begin_in_a_jump_off(self):
        self.assertEqual(tell(two(), fail(), begin(2, 5, 2, [70]), up(), skip())[1:],
                         [[0], [0, 70, 1], [0, 0, 70]])


if __name__ == '__main__':
    unittest.main()
