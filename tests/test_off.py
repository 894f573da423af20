"""Of point 3: off."""

import unittest

from tests.lines import (LEAST, MOST, alike, begin, behind, clear, fail, height, jumps, last, leave, now, off, order,
                         run, skip, two, up)


class WantedTest(unittest.TestCase):

    def test_answers_how_many_are_first_then_the_bar(self):
        self.assertEqual(behind(two(), off(1)), [[2, 120]])
        for athletes in (2, 3, 7, 20):
            self.assertEqual(last(*alike(athletes), off(1)), [athletes, 105])

    def test_first_bar_is_the_next_height_told(self):
        self.assertEqual(last(*alike(2, 3, 5, [100, 101]), off(1)), [2, 101])
        self.assertEqual(last(*alike(2, 3, 5, [100, 130, 140]), off(1)), [2, 130])

    def test_first_bar_is_rise_more_if_none_is_told(self):
        self.assertEqual(last(*alike(2, 3, 5, [100]), off(1)), [2, 105])
        self.assertEqual(last(*alike(2, 3, 20, [100]), off(1)), [2, 120])
        self.assertEqual(last(begin(2, 7, 2, [100, 110]), *jumps('oo oo xxxxxx'), off(1)), [2, 117])
        self.assertEqual(last(begin(2, 7, 2, [100]), *jumps('oo oo oo xxxxxx'), off(1)), [2, 121])

    def test_first_bar_lies_behind_what_they_cleared_wherever_the_bar_was_last(self):
        self.assertEqual(run(begin(2), *jumps('oo -- xxxxxx'), now(), off(1))[-2:], [[1, 120], [2, 110]])
        self.assertEqual(last(begin(2), *jumps('oo'), leave(0), height(300), *jumps('xxx'), off(1)), [2, 110])

    def test_first_bar_lies_behind_what_the_first_ones_cleared(self):
        # 2 has cleared 100 alone; behind that lies 110.
        calls = [begin(3, 5, 2, [100, 110]), *jumps('ooo oox xx xxxxxx')]
        self.assertEqual(run(*calls, off(1))[-2:], [[1, 1, 115], [2, 115]])

    def test_phase_and_bar_behind_it(self):
        self.assertEqual(behind(two(), now(), off(1), now(), up()), [[1, 120], [2, 120], [2, 120, 0, 2], [0, 120, 1]])
        self.assertEqual(behind(alike(2), off(1), now()), [[2, 105], [2, 105, 0, 1]])

    def test_those_who_left_are_in_it(self):
        left = [begin(3), *jumps('ooo'), leave(0), leave(2), leave(1)]
        self.assertEqual(behind(left, off(1), now()), [[3, 110], [2, 110, 0, 1, 2]])
        one_left = [begin(3), *jumps('oox'), leave(0), *jumps('xx xxx')]
        self.assertEqual(behind(one_left, off(1), now()), [[2, 110], [2, 110, 0, 1]])


class NotWantedTest(unittest.TestCase):

    def test_answers_how_many_are_first_alone(self):
        self.assertEqual(behind(two(), off(0)), [[2]])
        for athletes in (2, 3, 20):
            self.assertEqual(last(*alike(athletes), off(0)), [athletes])

    def test_it_is_over_and_the_bar_stays(self):
        self.assertEqual(behind(two(), off(0), now(), up(), fail(), clear(), leave(0), height(300)),
                         [[2], [3, 120]] + [[-4]] * 5)

    def test_they_stay_alike(self):
        self.assertEqual(behind(two(), order(), off(0), order()),
                         [[3, 0, 1, 110, 2, 1, 110, 1, 3, 100], [2], [3, 0, 1, 110, 2, 1, 110, 1, 3, 100]])


class RefusalTest(unittest.TestCase):

    def test_wanted_is_0_or_1(self):
        for wanted in (-1, 2, 3, -2, LEAST, MOST):
            self.assertEqual(behind(two(), off(wanted), now(), off(1)), [[-1], [1, 120], [2, 120]])

    def test_not_ahead_of_any_begin(self):
        self.assertEqual(run(off(0), off(1), now()), [[-4], [-4], [3, 0]])
        self.assertEqual(run(begin(0), off(1)), [[-1], [-4]])

    def test_not_while_the_contest_is_on(self):
        self.assertEqual(run(begin(2), off(0), off(1), up())[1:], [[-4], [-4], [0, 100, 1]])
        # 0 and 1 are first and alike already, but 1 isn't out.
        self.assertEqual(run(begin(2), *jumps('oo'), leave(0), off(0), off(1), now())[-3:], [[-4], [-4], [0, 110, 1]])

    def test_not_when_one_alone_is_first(self):
        self.assertEqual(run(begin(2), *jumps('oo oxxx xxx'), off(0), off(1), now())[-3:], [[-4], [-4], [3, 120]])
        self.assertEqual(run(begin(1), *jumps('oxxx'), off(0), off(1))[-2:], [[-4], [-4]])

    def test_not_when_nobody_has_cleared_a_height(self):
        self.assertEqual(run(begin(2), *jumps('xxxxxx'), off(0), off(1), now())[-3:], [[-4], [-4], [3, 100]])

    def test_not_when_only_others_than_the_first_are_alike(self):
        self.assertEqual(run(begin(3), *jumps('ooo oxxxxxx xxx'), off(0), off(1))[-2:], [[-4], [-4]])

    def test_not_a_second_time_when_wanted(self):
        self.assertEqual(behind(two(), off(1), off(0), off(1), now(), up()),
                         [[2, 120], [-4], [-4], [2, 120, 0, 2], [0, 120, 1]])
        self.assertEqual(behind(two(), off(1), fail(), off(1), off(0), up()),
                         [[2, 120], [0, 2, 120], [-4], [-4], [2, 120, 1]])

    def test_not_a_second_time_when_not_wanted(self):
        self.assertEqual(behind(two(), off(0), off(1), off(0), now()), [[2], [-4], [-4], [3, 120]])

    def test_not_behind_a_jump_off(self):
        self.assertEqual(behind(two(), off(1), *jumps('ox'), off(1), off(0), now())[-3:], [[-4], [-4], [3, 120]])

    def test_a_wrong_number_is_told_first(self):
        self.assertEqual(run(off(2), begin(2), off(2), off(-1)), [[-1], [0], [-1], [-1]])
        self.assertEqual(behind(two(), off(1), off(2), *jumps('ox'), off(2))[1::3], [[-1], [-1]])
        self.assertEqual(behind(two(), off(0), off(2)), [[2], [-1]])

    def test_a_refusal_changes_nothing(self):
        self.assertEqual(run(begin(2), fail(), off(1), skip(), off(0), now(), up())[1:],
                         [[0, 0, 100], [-4], [1, 0, 100], [-4], [0, 100, 0, 1], [0, 100, 2]])


if __name__ == '__main__':
    unittest.main()
