"""The call order: who's in it, who's ahead, the places; with a jump-off and without one."""

import unittest

from tests.lines import alike, begin, behind, clear, fail, height, jumps, last, leave, off, order, run, two, up


class WhoIsInItTest(unittest.TestCase):

    def test_nobody(self):
        self.assertEqual(last(order()), [0])
        self.assertEqual(last(begin(0), order()), [0])
        self.assertEqual(last(begin(3), order()), [0])
        self.assertEqual(last(begin(3), *jumps('xx-xx'), order()), [0])
        self.assertEqual(last(begin(2), *jumps('xxxxxx'), order()), [0])
        self.assertEqual(last(begin(1), leave(0), order()), [0])

    def test_who_has_cleared_nothing_is_not_in_it(self):
        self.assertEqual(last(begin(4), *jumps('-ox'), order()), [1, 1, 1, 100])
        self.assertEqual(last(begin(3), *jumps('xoxxx'), leave(2), order()), [1, 1, 1, 100])

    def test_who_has_left_is_in_it(self):
        self.assertEqual(last(begin(2), *jumps('oo o'), leave(0), order()), [2, 0, 1, 110, 1, 2, 100])

    def test_while_the_contest_is_on(self):
        told = run(begin(2), fail(), order(), clear(), order(), clear(), order(), clear(), order())
        self.assertEqual(told[2::2], [[0], [1, 1, 1, 100], [2, 1, 1, 100, 0, 2, 100], [2, 0, 1, 110, 1, 2, 100]])

    def test_order_changes_nothing(self):
        self.assertEqual(run(begin(2), fail(), order(), up(), order(), clear())[2:],
                         [[0], [1, 100, 1], [0], [1, 0, 100]])


class AheadTest(unittest.TestCase):

    def test_the_greater_height(self):
        self.assertEqual(last(begin(4), *jumps('oooo -o-o --o-'), order()),
                         [4, 2, 1, 120, 1, 2, 110, 3, 2, 110, 0, 4, 100])

    def test_the_greater_height_counts_ahead_of_failures(self):
        self.assertEqual(last(begin(2), *jumps('oxo xxxxxo'), order()), [2, 1, 1, 110, 0, 2, 100])

    def test_the_greater_height_where_the_bar_was_put(self):
        calls = [begin(2), *jumps('oo o'), leave(1), height(111), clear()]
        self.assertEqual(last(*calls, order()), [2, 0, 1, 111, 1, 2, 100])

    def test_fewer_failures_there(self):
        # As many in all: 0's at 110, 1's at 100.
        self.assertEqual(last(begin(2), *jumps('oxo xoo'), order()), [2, 1, 1, 110, 0, 2, 110])
        self.assertEqual(last(begin(3), *jumps('xxo xo o'), order()), [3, 2, 1, 100, 1, 2, 100, 0, 3, 100])

    def test_failures_there_count_ahead_of_those_in_all(self):
        # 1 fails at 100 twice, 0 at 110 once.
        self.assertEqual(last(begin(2), *jumps('oxxo xoo'), order()), [2, 1, 1, 110, 0, 2, 110])

    def test_fewer_failures_at_all_heights_up_to_it(self):
        self.assertEqual(last(begin(2), *jumps('xoo oo'), order()), [2, 1, 1, 110, 0, 2, 110])
        self.assertEqual(last(begin(3), *jumps('xxo xo o ooo'), order()), [3, 2, 1, 110, 1, 2, 110, 0, 3, 110])

    def test_failures_there_count_among_those_in_all(self):
        # Each fails at 110 once, 0 at 100 as well.
        self.assertEqual(last(begin(2), *jumps('xoo xxoo'), order()), [2, 1, 1, 110, 0, 2, 110])

    def test_failures_at_a_height_passed_count(self):
        self.assertEqual(last(begin(2), *jumps('xo- oo'), order()), [2, 1, 1, 110, 0, 2, 110])

    def test_a_pass_is_no_failure(self):
        self.assertEqual(last(begin(2), *jumps('-o oo'), order()), [2, 0, 1, 110, 1, 1, 110])

    def test_failures_above_it_do_not_matter(self):
        self.assertEqual(last(begin(2), *jumps('oo xoxx'), order()), [2, 1, 1, 110, 0, 2, 100])
        self.assertEqual(last(begin(3), *jumps('ooo xx-xx'), order()), [3, 0, 1, 100, 1, 1, 100, 2, 1, 100])


class PlaceTest(unittest.TestCase):
    """One more than how many are ahead; alike ones by their numbers."""

    def test_one_alone(self):
        self.assertEqual(last(begin(1), *jumps('xo'), order()), [1, 0, 1, 100])

    def test_alike_ones_and_the_place_behind_them(self):
        self.assertEqual(last(begin(5), *jumps('xoxoo oo'), order()),
                         [5, 1, 1, 100, 3, 1, 100, 4, 1, 100, 0, 4, 100, 2, 4, 100])
        self.assertEqual(last(begin(6), *jumps('xoxoxx oxox oo'), order()),
                         [6, 1, 1, 100, 3, 1, 100, 0, 3, 100, 4, 3, 100, 2, 5, 100, 5, 5, 100])

    def test_alike_by_failures_at_different_heights(self):
        # 0 fails at 100, 1 at 110; both clear 120 at once.
        self.assertEqual(last(begin(2), *jumps('xoo oxo oo'), order()), [2, 0, 1, 120, 1, 1, 120])

    def test_20_alike(self):
        rows = [number for athlete in range(20) for number in (athlete, 1, 100)]
        self.assertEqual(last(begin(20), *jumps('o' * 20), order()), [20] + rows)

    def test_many_one_behind_another(self):
        # At each height one alone clears, the others pass: 0 at 100, 1 at 105, and so on.
        hows = ''.join('-' * athlete + 'o' + '-' * (19 - athlete) for athlete in range(7))
        calls = [begin(20, 5, 2, [100]), *jumps(hows), order()]
        rows = [number for athlete in range(7) for number in (6 - athlete, athlete + 1, 130 - 5 * athlete)]
        self.assertEqual(last(*calls), [7] + rows)


class JumpOffTest(unittest.TestCase):

    ahead_of_it = [3, 0, 1, 110, 2, 1, 110, 1, 3, 100]

    def test_ahead_of_it(self):
        self.assertEqual(behind(two(), order()), [self.ahead_of_it])

    def test_not_wanted(self):
        self.assertEqual(behind(two(), off(0), order()), [[2], self.ahead_of_it])

    def test_those_in_it_still_are_alike(self):
        for hows in ('', 'o', 'x', 'oo', 'xx', 'oox', 'oo xx xx oo o'):
            self.assertEqual(behind(two(), off(), *jumps(hows), order())[-1], self.ahead_of_it)

    def test_behind_it_one_alone_is_first(self):
        for hows in ('ox', 'oo ox', 'xx ox', 'xx oo xx ox'):
            self.assertEqual(behind(two(), off(), *jumps(hows), order())[-1], [3, 0, 1, 110, 2, 2, 110, 1, 3, 100])
        for hows in ('xo', 'oo xo', 'xx xo', 'xx oo xx xo'):
            self.assertEqual(behind(two(), off(), *jumps(hows), order())[-1], [3, 2, 1, 110, 0, 2, 110, 1, 3, 100])

    def places(self, calls, hows):
        """Each athlete with their place, in order, behind these jumps of a jump-off; the height is 100."""
        told = behind(calls, off(), *jumps(hows), order())[-1]
        self.assertEqual(told[0], len(told) // 3)
        self.assertEqual(set(told[3::3]), {100})
        return list(zip(told[1::3], told[2::3]))

    def test_several_rounds(self):
        calls = alike(5)
        self.assertEqual(self.places(calls, 'oxoo'), [(0, 1), (1, 1), (2, 1), (3, 1), (4, 1)])
        first_round = [(0, 1), (2, 1), (3, 1), (1, 4), (4, 4)]
        for more in ('', 'x', 'xxx', 'ooo', 'xxx xo'):
            self.assertEqual(self.places(calls, 'oxoox' + more), first_round)
        self.assertEqual(self.places(calls, 'oxoox xxx xoo'), [(2, 1), (3, 1), (0, 3), (1, 4), (4, 4)])
        self.assertEqual(self.places(calls, 'oxoox xxx xoo xo'), [(3, 1), (2, 2), (0, 3), (1, 4), (4, 4)])

    def test_out_in_the_last_round_are_alike(self):
        self.assertEqual(self.places(alike(4), 'xxox'), [(2, 1), (0, 2), (1, 2), (3, 2)])
        self.assertEqual(self.places(alike(4), 'xooo xxo'), [(3, 1), (1, 2), (2, 2), (0, 4)])

    def test_who_went_out_later_is_ahead_by_whatever_number(self):
        self.assertEqual(self.places(alike(4), 'xooo xoo xo'), [(3, 1), (2, 2), (1, 3), (0, 4)])
        self.assertEqual(self.places(alike(4), 'ooox oox ox'), [(0, 1), (1, 2), (2, 3), (3, 4)])

    def test_others_stay_behind_as_they_were(self):
        # 1, 3 and 4 are first and alike; 0 and 2, who are alike too, aren't in the jump-off.
        calls = [begin(5), *jumps('xoxoo oo' + 'x' * 15)]
        self.assertEqual(self.places(calls, ''), [(1, 1), (3, 1), (4, 1), (0, 4), (2, 4)])
        self.assertEqual(self.places(calls, 'xoo'), [(3, 1), (4, 1), (1, 3), (0, 4), (2, 4)])
        self.assertEqual(self.places(calls, 'xoo xo'), [(4, 1), (3, 2), (1, 3), (0, 4), (2, 4)])

    def test_who_has_left_may_become_first(self):
        calls = [begin(3), *jumps('ooo'), leave(2), *jumps('xxxxxx')]
        self.assertEqual(self.places(calls, 'xxo'), [(2, 1), (0, 2), (1, 2)])

    def test_the_height_is_the_contests(self):
        # Both clear 105 and 108, then 0 alone clears 111.
        self.assertEqual(behind(alike(2), off(), *jumps('oo oo ox'), order())[-1], [2, 0, 1, 100, 1, 2, 100])


if __name__ == '__main__':
    unittest.main()
