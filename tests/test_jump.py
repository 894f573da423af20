"""Point 2: up and jump; who's due, who's out, when the bar moves, when it's over."""

import unittest

from tests.lines import begin, clear, fail, height, jump, jumps, last, leave, run, skip, up


class WhoIsUpTest(unittest.TestCase):

    def test_up_tells_who_where_and_which_jump(self):
        told = run(begin(1, 5, 2, [100]), up(), fail(), up(), fail(), up())
        self.assertEqual(told[1::2], [[0, 100, 1], [0, 100, 2], [0, 100, 3]])

    def test_up_changes_nothing(self):
        self.assertEqual(run(begin(2), up(), up(), up())[1:], [[0, 100, 1]] * 3)

    def test_jump_tells_who_was_up_then_phase_and_bar(self):
        self.assertEqual(run(begin(3, 5, 2, [100, 110]), *jumps('xo-'))[1:],
                         [[0, 0, 100], [1, 0, 100], [2, 0, 100]])

    def test_all_jump_once_before_one_jumps_again(self):
        told = run(begin(3), *jumps('xxxxxxxxx'))
        self.assertEqual([answer[0] for answer in told[1:]], [0, 1, 2, 0, 1, 2, 0, 1, 2])

    def test_who_has_cleared_or_passed_is_not_due(self):
        told = run(begin(4), *jumps('xo-xxxx'))
        self.assertEqual([answer[0] for answer in told[1:]], [0, 1, 2, 3, 0, 3, 0])

    def test_least_often_counts_at_the_bar_alone(self):
        # At 100 athlete 0 has jumped three times and 1 once; at 110 that doesn't matter.
        told = run(begin(2), *jumps('xoxo'), up())
        self.assertEqual(told[-1], [0, 110, 1])
        self.assertEqual(last(begin(3), *jumps('ooo xxx -'), up()), [1, 110, 2])

    def test_a_pass_with_failures_at_the_bar(self):
        told = run(begin(2), *jumps('xx-o'), up())
        self.assertEqual(told[-2:], [[1, 0, 110], [0, 110, 1]])


class RefusalTest(unittest.TestCase):

    def test_how_is_0_to_2(self):
        for how in (-1, 3, 4, 100, -100):
            self.assertEqual(run(begin(), jump(how), up())[1:], [[-1], [0, 100, 1]])
        for how in (0, 1, 2):
            self.assertEqual(last(begin(), jump(how)), [0, 0, 100])

    def test_nobody_is_up_when_it_is_over(self):
        over = [begin(1, 5, 2, [100]), *jumps('xxx')]
        self.assertEqual(last(*over), [0, 3, 100])
        self.assertEqual(run(*over, up(), *jumps('xo-'), jump(3))[-5:], [[-4]] * 4 + [[-1]])

    def test_nobody_is_up_when_first_ones_are_alike(self):
        alike = [begin(2, 5, 2, [100]), *jumps('oo xxxxxx')]
        self.assertEqual(last(*alike), [1, 1, 105])
        self.assertEqual(run(*alike, up(), *jumps('xo-'), jump(-1))[-5:], [[-4]] * 4 + [[-1]])

    def test_nobody_up_is_told_ahead_of_a_refused_pass(self):
        self.assertEqual(last(begin(1), height(950), skip()), [-5])
        self.assertEqual(last(begin(1), height(950), *jumps('xxx'), skip()), [-4])

    def test_no_pass_from_950_on(self):
        self.assertEqual(last(begin(1, 7), height(949), skip()), [0, 0, 956])
        self.assertEqual(last(begin(1, 7), height(950), skip()), [-5])
        self.assertEqual(last(begin(1, 7), height(951), skip()), [-5])
        self.assertEqual(last(begin(1, 7), height(999), skip()), [-5])
        self.assertEqual(last(begin(1, 7), height(999), clear(), skip()), [-5])

    def test_no_pass_from_950_on_for_several(self):
        # Passed by both 13 times, the bar goes from 690 to 950.
        calls = [begin(2, 20, 2, [690])] + [skip()] * 26
        self.assertEqual(last(*calls), [1, 0, 950])
        self.assertEqual(run(*calls, skip(), up(), fail(), skip())[-4:],
                         [[-5], [0, 950, 1], [0, 0, 950], [-5]])

    def test_jumps_from_950_on_are_taken(self):
        self.assertEqual(run(begin(1, 7), height(950), fail(), clear())[-2:], [[0, 0, 950], [0, 0, 957]])

    def test_the_bar_may_go_above_999(self):
        self.assertEqual(run(begin(1, 20), height(999), clear(), up(), clear())[-3:],
                         [[0, 0, 1019], [0, 1019, 1], [0, 0, 1039]])

    def test_a_refusal_changes_nothing(self):
        told = run(begin(2), fail(), jump(3), jump(-1), up(), clear(), up())
        self.assertEqual(told[1:], [[0, 0, 100], [-1], [-1], [1, 100, 1], [1, 0, 100], [0, 100, 2]])
        told = run(begin(1), height(960), fail(), skip(), up(), fail(), skip(), fail())
        self.assertEqual(told[2:], [[0, 0, 960], [-5], [0, 960, 2], [0, 0, 960], [-5], [0, 3, 960]])


class BarTest(unittest.TestCase):

    def test_bar_stays_while_somebody_is_due(self):
        self.assertEqual([answer[2] for answer in run(begin(2), *jumps('oxxo'))[1:]], [100, 100, 100, 110])

    def test_bar_goes_through_the_heights_told(self):
        told = run(begin(1, 5, 2, [100, 103, 120, 121]), *jumps('oooo'))
        self.assertEqual([answer[2] for answer in told[1:]], [103, 120, 121, 126])

    def test_behind_the_last_height_told_it_goes_up_by_rise(self):
        told = run(begin(1, 20, 2, [100, 110]), *jumps('oooo'))
        self.assertEqual([answer[2] for answer in told[1:]], [110, 130, 150, 170])
        told = run(begin(1, 1, 2, [100]), *jumps('oo'))
        self.assertEqual([answer[2] for answer in told[1:]], [101, 102])

    def test_bar_goes_up_when_all_have_passed(self):
        self.assertEqual(run(begin(2), *jumps('--'))[1:], [[0, 0, 100], [1, 0, 110]])

    def test_bar_goes_up_when_the_last_due_goes_out(self):
        self.assertEqual(run(begin(2), *jumps('oxxx'))[1:], [[0, 0, 100], [1, 0, 100], [1, 0, 100], [1, 0, 110]])

    def test_bar_stays_when_all_are_out(self):
        self.assertEqual(run(begin(2), *jumps('xxxxxx'))[-2:], [[0, 0, 100], [1, 3, 100]])

    def test_who_is_out_is_not_up_at_the_next_height(self):
        self.assertEqual(last(begin(3), *jumps('xoo xx'), up()), [1, 110, 1])


class ThreeFailuresTest(unittest.TestCase):

    def test_three_at_one_height(self):
        self.assertEqual(run(begin(1), *jumps('xxx'))[-2:], [[0, 0, 100], [0, 3, 100]])

    def test_three_at_several_heights_with_passes_in_between(self):
        told = run(begin(1), *jumps('x-x-x'))
        self.assertEqual(told[1:], [[0, 0, 100], [0, 0, 110], [0, 0, 110], [0, 0, 120], [0, 3, 120]])

    def test_several_passes_in_between(self):
        self.assertEqual(last(begin(1), *jumps('xx----x')), [0, 3, 130])
        self.assertEqual(last(begin(1), *jumps('x--xx')), [0, 3, 120])

    def test_a_pass_ahead_of_them_does_not_matter(self):
        self.assertEqual(run(begin(1), *jumps('-xxx'))[-2:], [[0, 0, 110], [0, 3, 110]])

    def test_a_cleared_height_wipes_them_out(self):
        self.assertEqual(run(begin(1), *jumps('xxoxxx'))[-2:], [[0, 0, 110], [0, 3, 110]])
        self.assertEqual(last(begin(1), *jumps('xxo xxo xx')), [0, 0, 120])

    def test_a_cleared_height_behind_a_pass(self):
        self.assertEqual(run(begin(1), *jumps('xx-o-xxx'))[-2:], [[0, 0, 125], [0, 3, 125]])

    def test_others_jumps_do_not_count(self):
        told = run(begin(2), *jumps('xoxx'), up())
        self.assertEqual(told[-1], [1, 110, 1])
        told = run(begin(2), *jumps('xxxxx'), up())
        self.assertEqual(told[-2:], [[0, 0, 100], [1, 100, 3]])

    def test_which_jump_counts_at_the_bar_alone(self):
        self.assertEqual(last(begin(1), *jumps('xx-'), up()), [0, 110, 1])


class EndTest(unittest.TestCase):
    """When all are out it's over, unless two or more are first and alike."""

    def test_over_with_nobody_who_cleared_a_height(self):
        self.assertEqual(last(begin(2), *jumps('xxxxxx')), [1, 3, 100])
        self.assertEqual(last(begin(2), *jumps('--xxxxxx')), [1, 3, 110])
        self.assertEqual(last(begin(1), leave(0)), [0, 3, 100])

    def test_one_alone_is_over_when_out(self):
        self.assertEqual(last(begin(1), *jumps('oxxx')), [0, 3, 110])

    def test_the_greater_height_is_first(self):
        # Alone at 110, with no more failures up to there than the other one up to 100.
        self.assertEqual(last(begin(2), *jumps('oo xoxx xxx')), [1, 3, 120])

    def test_alike_behind_the_first_is_over(self):
        self.assertEqual(last(begin(3), *jumps('ooo oxxxxxx xxx')), [0, 3, 120])

    def test_the_greater_height_counts_ahead_of_failures(self):
        # 0 fails at 100 and 110; 1 and 2, without a failure up to 100, would be alike.
        self.assertEqual(last(begin(3), *jumps('xooo xxxoxxxx xxx')), [0, 3, 120])

    def test_fewer_failures_at_the_greatest_height_are_first(self):
        # As many failures in all: 0's at 110, 1's at 100.
        self.assertEqual(last(begin(2), *jumps('oxo xoo xxxxxx')), [1, 3, 120])

    def test_failures_there_count_ahead_of_those_in_all(self):
        # 1 fails at 100 twice; 0 and 2, who would be alike, at 110 once.
        self.assertEqual(last(begin(3), *jumps('oxoxo xoxoo xxxxxxxxx')), [2, 3, 120])

    def test_alike_with_fewer_failures_there(self):
        self.assertEqual(last(begin(3), *jumps('ooo oxoo xxxxxxxxx')), [2, 1, 120])

    def test_fewer_failures_up_to_the_greatest_height_are_first(self):
        self.assertEqual(last(begin(2), *jumps('oxo oo xxxxxx')), [1, 3, 120])
        self.assertEqual(last(begin(3), *jumps('oxxoo ooo xxxxxxxxx')), [2, 3, 120])
        self.assertEqual(last(begin(3), *jumps('xooo ooo xxxxxxxxx')), [2, 1, 120])

    def test_failures_at_a_height_passed_count(self):
        self.assertEqual(last(begin(2), *jumps('xo- oo xxxxxx')), [1, 3, 120])

    def test_a_pass_is_no_failure(self):
        self.assertEqual(last(begin(2), *jumps('-o oo xxxxxx')), [1, 1, 120])

    def test_alike_when_failures_up_to_it_are_as_many(self):
        # 0's at 100, 1's at 110; both clear 120 at once.
        self.assertEqual(last(begin(2), *jumps('xoo oxo oo xxxxxx')), [1, 1, 125])

    def test_failures_above_the_greatest_height_do_not_matter(self):
        # 0 fails at 110 three times; 1 once, passes, once more at 120, and leaves.
        self.assertEqual(last(begin(2), *jumps('oo xxx-x x'), leave(1)), [0, 1, 120])

    def test_alike_ones_among_others(self):
        self.assertEqual(last(begin(4), *jumps('xoooo xxxx xxxx xxxx')), [3, 1, 110])

    def test_those_who_left_are_first_and_alike_too(self):
        self.assertEqual(run(begin(2), *jumps('oo'), leave(0), leave(1))[-2:], [[0, 0, 110], [0, 1, 110]])
        self.assertEqual(last(begin(2), clear(), leave(0), clear(), leave(1)), [0, 1, 110])

    def test_one_who_left_is_ahead(self):
        self.assertEqual(last(begin(2), *jumps('oo oxo'), leave(0), leave(1)), [0, 3, 120])

    def test_it_is_on_while_one_is_not_out(self):
        self.assertEqual(last(begin(2), *jumps('oo xxxxx')), [0, 0, 110])

    def test_20_alike(self):
        self.assertEqual(last(begin(20), *jumps('o' * 20 + 'x' * 60)), [19, 1, 110])


class WalkTest(unittest.TestCase):
    """What the document says it stands for, along long lines of calls."""

    def calls(self, seed, athletes):
        """A begin, then by turns a call that may change something and an up."""
        state = seed
        calls = [begin(athletes, 1 + seed % 20, 1, [50 + seed, 60 + seed, 75 + seed])]
        while len(calls) < 248:
            state = (state * 1103515245 + 12345) % 2147483648
            choice = state // 65536 % 40
            if choice < 36:
                calls.append(jump((0, 1, 1, 2, 0, 1)[choice % 6]))
            elif choice == 36:
                calls.append(leave(state // 65536 % athletes))
            else:
                calls.append(height(50 + state // 65536 % 950))
            calls.append(up())
        return calls

    def check(self, calls):
        told = run(*calls)
        failures = {}
        greatest = 0
        phase = 0
        bar = calls[0][5]
        for index in range(1, len(calls), 2):
            call, answer = calls[index], told[index]
            if call[0] == 3 and len(answer) == 3:
                self.assertGreaterEqual(bar, greatest)
                greatest = bar
                if call[1] != 2:
                    failures[answer[0]] = failures.get(answer[0], 0) + 1 if call[1] == 0 else 0
                self.assertLessEqual(failures.get(answer[0], 0), 3)
            if len(answer) == 3:
                phase, bar = answer[1], answer[2]
            if phase == 0:
                self.assertEqual(told[index + 1][1], bar)
                self.assertLess(failures.get(told[index + 1][0], 0), 3)
                self.assertIn(told[index + 1][2], (1, 2, 3))
            else:
                self.assertEqual(told[index + 1], [-4])
        return phase

    def test_walks(self):
        ends = [self.check(self.calls(seed, 1 + seed % 20)) for seed in range(100)]
        self.assertLessEqual({0, 3}, set(ends))


if __name__ == '__main__':
    unittest.main()
