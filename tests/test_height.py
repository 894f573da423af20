"""Of point 3: height."""

import unittest

from tests.lines import begin, clear, fail, height, jumps, last, leave, run, skip, up


class HeightTest(unittest.TestCase):

    def test_answers_who_alone_is_not_out_then_phase_and_bar(self):
        self.assertEqual(last(begin(1), height(300)), [0, 0, 300])
        self.assertEqual(last(begin(3), leave(0), leave(2), height(300)), [1, 0, 300])
        self.assertEqual(last(begin(3), *jumps('xxo xx xx'), height(300)), [2, 0, 300])

    def test_both_ends_of_where_the_bar_may_be(self):
        self.assertEqual([last(begin(1), height(bar)) for bar in (-1, 0, 49, 50, 51, 998, 999, 1000)],
                         [[-1], [-1], [-1], [0, 0, 50], [0, 0, 51], [0, 0, 998], [0, 0, 999], [-1]])

    def test_up_tells_the_bar_put_there(self):
        self.assertEqual(last(begin(1), height(117), up()), [0, 117, 1])

    def test_lower_than_the_bar_is(self):
        told = run(begin(1), clear(), height(105), up(), clear())
        self.assertEqual(told[1:], [[0, 0, 110], [0, 0, 105], [0, 105, 1], [0, 0, 110]])

    def test_lower_than_the_first_height(self):
        self.assertEqual(run(begin(1), height(60), clear())[1:], [[0, 0, 60], [0, 0, 100]])

    def test_where_the_bar_is_if_there_is_no_jump(self):
        self.assertEqual(last(begin(1), height(100)), [0, 0, 100])
        self.assertEqual(last(begin(1), clear(), height(110)), [0, 0, 110])

    def test_several_times_one_behind_another(self):
        self.assertEqual(run(begin(1), height(500), height(60), height(200))[1:],
                         [[0, 0, 500], [0, 0, 60], [0, 0, 200]])

    def test_height_behind_is_the_least_told_that_is_greater(self):
        self.assertEqual(run(begin(1), height(109), clear())[-1], [0, 0, 110])
        self.assertEqual(run(begin(1), height(110), clear())[-1], [0, 0, 120])
        self.assertEqual(run(begin(1), height(111), skip())[-1], [0, 0, 120])

    def test_height_behind_is_rise_more_above_those_told(self):
        self.assertEqual(run(begin(1), height(119), clear())[-1], [0, 0, 120])
        self.assertEqual(run(begin(1), height(120), clear())[-1], [0, 0, 125])
        self.assertEqual(run(begin(1), height(121), clear())[-1], [0, 0, 126])
        self.assertEqual(run(begin(1, 20), height(999), clear())[-1], [0, 0, 1019])

    def test_failures_stay(self):
        told = run(begin(1), *jumps('xx'), height(300), up(), fail())
        self.assertEqual(told[-3:], [[0, 0, 300], [0, 300, 1], [0, 3, 300]])
        told = run(begin(1), fail(), height(300), fail(), height(301), fail())
        self.assertEqual(told[-1], [0, 3, 301])

    def test_jumps_where_the_bar_was_put_count_in_the_order(self):
        both = [begin(2), *jumps('oo'), leave(0), height(105)]
        self.assertEqual(last(*both, *jumps('xxx')), [1, 1, 105])
        self.assertEqual(run(*both, clear(), leave(1))[-2:], [[1, 0, 110], [0, 3, 110]])


class RefusalTest(unittest.TestCase):

    def test_not_while_several_are_not_out(self):
        self.assertEqual(last(begin(2), height(300)), [-4])
        self.assertEqual(last(begin(3), leave(1), height(300)), [-4])
        self.assertEqual(last(begin(2), *jumps('oxx'), height(300)), [-4])

    def test_not_when_it_is_over(self):
        self.assertEqual(last(begin(1), leave(0), height(300)), [-4])
        self.assertEqual(last(begin(1), *jumps('oxxx'), height(300)), [-4])

    def test_not_when_first_ones_are_alike(self):
        alike = [begin(2), *jumps('oo'), leave(0), leave(1)]
        self.assertEqual(run(*alike, height(300), height(49))[-3:], [[0, 1, 110], [-4], [-1]])

    def test_not_where_anybody_has_jumped_or_lower(self):
        for hows in ('x', 'xx', 'o', '-'):
            self.assertEqual([last(begin(1), *jumps(hows), height(bar)) for bar in (50, 99, 100, 101)],
                             [[-5], [-5], [-5], [0, 0, 101]])

    def test_others_jumps_count(self):
        for other in ('xx', '-x', 'ox'):
            calls = [begin(2), *jumps(other[0]), leave(0)]
            self.assertEqual([last(*calls, height(bar)) for bar in (99, 100, 101)], [[-5], [-5], [1, 0, 101]])

    def test_others_jumps_above_count(self):
        # 1 hasn't jumped at 110, but 0 has, and then leaves.
        calls = [begin(2), *jumps('oo x'), leave(0)]
        self.assertEqual([last(*calls, height(bar)) for bar in (100, 105, 110, 111)],
                         [[-5], [-5], [-5], [1, 0, 111]])

    def test_which_refusal_is_told_first(self):
        for bar in (49, 1000):
            self.assertEqual(last(begin(2), height(bar)), [-1])
            self.assertEqual(last(begin(1), leave(0), height(bar)), [-1])
        self.assertEqual(last(begin(1), clear(), height(49)), [-1])
        self.assertEqual(last(begin(2), fail(), height(100)), [-4])
        self.assertEqual(last(begin(1), *jumps('xxx'), height(100)), [-4])

    def test_a_refusal_changes_nothing(self):
        told = run(begin(1), fail(), height(100), height(49), height(1000), up(), clear())
        self.assertEqual(told[2:], [[-5], [-1], [-1], [0, 100, 2], [0, 0, 110]])
        told = run(begin(2), height(300), up(), clear(), height(300), up())
        self.assertEqual(told[1:], [[-4], [0, 100, 1], [0, 0, 100], [-4], [1, 100, 1]])


if __name__ == '__main__':
    unittest.main()
