"""The call now: the phase, the bar, who isn't out; in a jump-off who's in it still."""

import unittest

from tests.lines import (alike, begin, behind, clear, fail, height, jumps, last, leave, now, off, order, run, skip, two,
                         up)


class NowTest(unittest.TestCase):

    def test_ahead_of_any_begin(self):
        self.assertEqual(run(now()), [[3, 0]])
        self.assertEqual(run(begin(0), fail(), leave(0), height(300), off(1), now())[-1], [3, 0])

    def test_at_the_beginning(self):
        self.assertEqual(last(begin(3), now()), [0, 100, 0, 1, 2])
        self.assertEqual(last(begin(1, 5, 2, [700]), now()), [0, 700, 0])
        self.assertEqual(last(begin(20), now()), [0, 100] + list(range(20)))

    def test_who_is_not_out_while_the_contest_is_on(self):
        self.assertEqual(last(begin(3), leave(1), now()), [0, 100, 0, 2])
        self.assertEqual(last(begin(3), leave(2), leave(0), now()), [0, 100, 1])
        self.assertEqual(last(begin(3), *jumps('xooxx'), now()), [0, 110, 1, 2])
        self.assertEqual(last(begin(3), *jumps('xxxxxxx'), now()), [0, 100, 1, 2])

    def test_who_is_not_due_is_told_too(self):
        self.assertEqual(last(begin(4), *jumps('xo-'), now()), [0, 100, 0, 1, 2, 3])

    def test_the_bar_while_the_contest_is_on(self):
        self.assertEqual(last(begin(2), *jumps('oo'), now()), [0, 110, 0, 1])
        self.assertEqual(last(begin(2), *jumps('oo -- oo o'), now()), [0, 125, 0, 1])
        self.assertEqual(last(begin(1), clear(), height(237), now()), [0, 237, 0])
        self.assertEqual(last(begin(1), height(960), skip(), clear(), now()), [0, 965, 0])

    def test_when_first_ones_are_alike(self):
        self.assertEqual(behind(two(), now()), [[1, 120]])
        self.assertEqual(last(begin(2), *jumps('oo'), leave(1), leave(0), now()), [1, 110])

    def test_when_it_is_over(self):
        self.assertEqual(last(begin(2), *jumps('xxxxxx'), now()), [3, 100])
        self.assertEqual(last(begin(2), *jumps('oxxx o xxx'), now()), [3, 120])
        self.assertEqual(last(begin(1), leave(0), now()), [3, 100])

    def test_when_no_jump_off_is_wanted(self):
        self.assertEqual(behind(two(), off(0), now()), [[2], [3, 120]])

    def test_in_a_jump_off(self):
        rounds = [('', [2, 105, 0, 1, 2, 3]), ('oox', [2, 105, 0, 1, 2, 3]), ('oox o', [2, 108, 0, 1, 3]),
                  ('oox o xxx', [2, 105, 0, 1, 3]), ('oox o xxx xo', [2, 105, 0, 1, 3]),
                  ('oox o xxx xoo', [2, 108, 1, 3]), ('oox o xxx xoo ox', [3, 105])]
        for hows, told in rounds:
            self.assertEqual(behind(alike(4), off(), *jumps(hows), now())[-1], told)

    def test_those_who_left_are_in_a_jump_off(self):
        calls = [begin(3), *jumps('oo-'), leave(1), leave(2), leave(0)]
        self.assertEqual(behind(calls, now(), off(), now()), [[1, 110], [2, 110], [2, 110, 0, 1]])

    def test_now_changes_nothing(self):
        self.assertEqual(run(begin(2), now(), up(), now(), fail(), now(), now(), up())[1:],
                         [[0, 100, 0, 1], [0, 100, 1], [0, 100, 0, 1], [0, 0, 100], [0, 100, 0, 1], [0, 100, 0, 1],
                          [1, 100, 1]])
        self.assertEqual(behind(two(), off(), now(), order(), now(), fail(), now())[3:],
                         [[2, 120, 0, 2], [0, 2, 120], [2, 120, 0, 2]])


if __name__ == '__main__':
    unittest.main()
