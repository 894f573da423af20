"""A jump-off: who's up, where its bar is, who goes out of it, when it's over."""

import unittest

from tests.lines import alike, begin, behind, clear, fail, height, jump, jumps, leave, now, off, order, skip, two, up


def in_two(*more):
    """The answers in the jump-off of 0 and 2, its first bar at 120, turn 2."""
    return behind([*two(), off()], *more)


def in_three(*more):
    """The answers in the jump-off of 0, 1 and 2, its first bar at 105, turn 3."""
    return behind([*alike(3), off()], *more)


class RoundTest(unittest.TestCase):

    def test_each_has_one_jump_in_the_order_of_numbers(self):
        self.assertEqual(in_two(up(), fail(), up(), fail(), up()),
                         [[0, 120, 1], [0, 2, 120], [2, 120, 1], [2, 2, 118], [0, 118, 1]])
        self.assertEqual([answer[0] for answer in in_three(*jumps('xxx xxx ooo x'))], [0, 1, 2, 0, 1, 2, 0, 1, 2, 0])

    def test_who_has_left_has_jumps_too(self):
        left = [begin(3), *jumps('ooo'), leave(2), leave(0), leave(1), off()]
        self.assertEqual(behind(left, *jumps('xox')), [[0, 2, 110], [1, 2, 110], [2, 3, 110]])

    def test_nothing_changes_in_the_midst_of_a_round(self):
        self.assertEqual(in_three(clear(), now(), up(), fail(), now(), up()),
                         [[0, 2, 105], [2, 105, 0, 1, 2], [1, 105, 1], [1, 2, 105], [2, 105, 0, 1, 2], [2, 105, 1]])

    def test_if_one_alone_clears_it_is_over(self):
        self.assertEqual(in_two(*jumps('ox')), [[0, 2, 120], [2, 3, 120]])
        self.assertEqual(in_two(*jumps('xo')), [[0, 2, 120], [2, 3, 120]])
        self.assertEqual(in_three(*jumps('xox'), now()), [[0, 2, 105], [1, 2, 105], [2, 3, 105], [3, 105]])

    def test_if_one_alone_clears_in_a_later_round_it_is_over(self):
        self.assertEqual(in_two(*jumps('xx oo xx xo'), now())[-2:], [[2, 3, 120], [3, 120]])

    def test_if_several_clear_the_others_are_out_of_it(self):
        self.assertEqual(in_three(*jumps('oxo'), now(), up(), *jumps('ox'))[2:],
                         [[2, 2, 108], [2, 108, 0, 2], [0, 108, 1], [0, 2, 108], [2, 3, 105]])
        self.assertEqual([answer[0] for answer in in_three(*jumps('xoo xx oo xo'))], [0, 1, 2, 1, 2, 1, 2, 1, 2])

    def test_if_all_clear_all_go_on(self):
        self.assertEqual(in_three(*jumps('ooo'), now(), *jumps('xxx'), up())[2:],
                         [[2, 2, 108], [2, 108, 0, 1, 2], [0, 2, 108], [1, 2, 108], [2, 2, 105], [0, 105, 1]])

    def test_if_none_clears_all_go_on_lower(self):
        self.assertEqual(in_three(*jumps('xxx'), now(), *jumps('xxx'), up())[2:],
                         [[2, 2, 102], [2, 102, 0, 1, 2], [0, 2, 102], [1, 2, 102], [2, 2, 99], [0, 99, 1]])

    def test_more_than_three_failures_are_taken(self):
        self.assertEqual(in_two(*jumps('xx' * 10), now())[-2:], [[2, 2, 100], [2, 100, 0, 2]])


class BarTest(unittest.TestCase):

    def test_it_goes_up_and_down_by_turn(self):
        for turn in (1, 2, 10):
            self.assertEqual(behind([*two(turn), off()], *jumps('oo'))[-1], [2, 2, 120 + turn])
            self.assertEqual(behind([*two(turn), off()], *jumps('xx'))[-1], [2, 2, 120 - turn])

    def test_heights_told_do_not_matter_to_it(self):
        calls = [*alike(2, 2, 20, [100, 110, 111, 112, 113, 114]), off()]
        self.assertEqual([answer[2] for answer in behind(calls, *jumps('oo oo xx'))[1::2]], [112, 114, 112])

    def test_it_goes_down_to_0_at_the_least(self):
        calls = [*alike(2, 10, 4, [50]), off()]
        told = behind(calls, *jumps('xx' * 8), now(), up(), *jumps('oo'))
        self.assertEqual([answer[2] for answer in told[1:16:2]], [44, 34, 24, 14, 4, 0, 0, 0])
        self.assertEqual(told[16:], [[2, 0, 0, 1], [0, 0, 1], [0, 2, 0], [1, 2, 10]])

    def test_it_goes_to_0_itself(self):
        calls = [*alike(2, 10, 10, [50]), off()]
        self.assertEqual([answer[2] for answer in behind(calls, *jumps('xx' * 7))[1::2]], [50, 40, 30, 20, 10, 0, 0])

    def test_one_alone_clears_at_0(self):
        calls = [*alike(2, 10, 10, [50]), off(), *jumps('xx' * 6)]
        self.assertEqual(behind(calls, *jumps('xo'), order())[1:], [[1, 3, 60], [2, 1, 1, 50, 0, 2, 50]])

    def test_it_goes_above_950_and_jumps_are_taken(self):
        calls = [begin(2, 20, 10, [700]), *jumps('oo' * 13 + 'xxxxxx'), off()]
        self.assertEqual(behind(calls, up(), skip(), *jumps('oo'), now()),
                         [[0, 960, 1], [-5], [0, 2, 960], [1, 2, 970], [2, 970, 0, 1]])

    def test_behind_it_the_bar_is_the_contests(self):
        calls = [begin(2), *jumps('oo -- xxxxxx'), off()]
        self.assertEqual(behind(calls, *jumps('xx ox'), now()),
                         [[0, 2, 110], [1, 2, 108], [0, 2, 108], [1, 3, 120], [3, 120]])


class RefusalTest(unittest.TestCase):

    def test_no_pass(self):
        self.assertEqual(in_two(skip(), up(), fail(), skip(), up()),
                         [[-5], [0, 120, 1], [0, 2, 120], [-5], [2, 120, 1]])

    def test_how_is_told_first(self):
        self.assertEqual(in_two(jump(3), jump(-1), up()), [[-1], [-1], [0, 120, 1]])

    def test_no_leaving_and_no_bar_to_be_put(self):
        self.assertEqual(in_two(leave(0), leave(1), leave(3), height(300), height(49), up()),
                         [[-4], [-4], [-1], [-4], [-1], [0, 120, 1]])

    def test_nobody_is_up_behind_it(self):
        self.assertEqual(in_two(*jumps('ox'), up(), *jumps('xo-'), jump(3), leave(0), height(300), now())[2:],
                         [[-4], [-4], [-4], [-4], [-1], [-4], [-4], [3, 120]])

    def test_begin_in_a_jump_off(self):
        self.assertEqual(in_two(fail(), begin(2, 5, 2, [70]), up(), skip(), now())[1:],
                         [[0], [0, 70, 1], [0, 0, 70], [0, 70, 0, 1]])

    def test_a_refused_begin_in_a_jump_off(self):
        self.assertEqual(in_two(fail(), begin(0), up()), [[0, 2, 120], [-1], [2, 120, 1]])


class WalkTest(unittest.TestCase):
    """Behind a jump-off one alone is first; in it each round is of those who are in it still, rising."""

    def calls(self, seed, many):
        """A now, an up and a jump, as many times as told, and an order at the end."""
        state = seed
        calls = []
        for index in range(many):
            state = (state * 1103515245 + 12345) % 2147483648
            calls.extend([now(), up(), jump(1 if state // 65536 % 5 < 2 else 0)])
        return calls + [order()]

    def check(self, athletes, seed, many):
        """The last phase told ahead of a jump."""
        told = behind([*alike(athletes), off()], *self.calls(seed, many))
        due = []
        for state, who, jumped in zip(told[0:-1:3], told[1:-1:3], told[2:-1:3]):
            if state[0] == 3:
                self.assertEqual([state, who, jumped], [[3, 105], [-4], [-4]])
                continue
            due = due or state[2:]
            self.assertEqual(due, state[-len(due):])
            self.assertEqual(who, [due[0], state[1], 1])
            self.assertEqual(jumped[0], due[0])
            due = due[1:]
        if state[0] == 3:
            self.assertEqual([place for place in told[-1][2::3] if place == 1], [1])
        return state[0]

    def test_walks(self):
        ends = [self.check(2 + seed % 9, seed, 5 + seed) for seed in range(60)]
        self.assertEqual(set(ends), {2, 3})


if __name__ == '__main__':
    unittest.main()
