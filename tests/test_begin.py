"""Point 1: begin."""

import unittest

from tests.lines import (alike, begin, behind, card, clear, fail, height, jumps, last, leave, now, off, order, run,
                         skip, two, up)


class BeginTest(unittest.TestCase):

    def test_bar_is_at_the_first_height(self):
        self.assertEqual(run(begin(3, 5, 2, [180, 190]), up()), [[0], [0, 180, 1]])

    def test_both_ends_of_athletes(self):
        self.assertEqual([last(begin(many)) for many in (-1, 0, 1, 2, 19, 20, 21)],
                         [[-1], [-1], [0], [0], [0], [0], [-1]])

    def test_both_ends_of_rise(self):
        self.assertEqual([last(begin(2, rise)) for rise in (-1, 0, 1, 2, 19, 20, 21)],
                         [[-1], [-1], [0], [0], [0], [0], [-1]])

    def test_both_ends_of_turn(self):
        self.assertEqual([last(begin(2, 5, turn)) for turn in (-1, 0, 1, 2, 9, 10, 11)],
                         [[-1], [-1], [0], [0], [0], [0], [-1]])

    def test_both_ends_of_how_many_heights(self):
        rising = list(range(100, 140))
        self.assertEqual([last(begin(2, 5, 2, rising[:many])) for many in (0, 1, 2, 29, 30, 31, 40)],
                         [[-1], [0], [0], [0], [0], [-1], [-1]])

    def test_both_ends_of_a_height(self):
        self.assertEqual([last(begin(2, 5, 2, [low])) for low in (-50, 0, 49, 50, 700, 701)],
                         [[-1], [-1], [-1], [0], [0], [-1]])
        self.assertEqual(last(begin(2, 5, 2, [50, 700])), [0])
        self.assertEqual(last(begin(2, 5, 2, [49, 700])), [-1])
        self.assertEqual(last(begin(2, 5, 2, [50, 701])), [-1])
        self.assertEqual(last(begin(2, 5, 2, [50, 701, 600])), [-1])

    def test_heights_that_do_not_rise(self):
        self.assertEqual(last(begin(2, 5, 2, [100, 100])), [-1])
        self.assertEqual(last(begin(2, 5, 2, [100, 99])), [-1])
        self.assertEqual(last(begin(2, 5, 2, [100, 110, 120, 120])), [-1])
        self.assertEqual(last(begin(2, 5, 2, [110, 100, 120])), [-1])
        self.assertEqual(last(begin(2, 5, 2, [100, 120, 110, 130])), [-1])
        self.assertEqual(last(begin(2, 5, 2, [100, 101])), [0])

    def test_several_faults_are_one_refusal(self):
        self.assertEqual(last(begin(0, 0, 0, [])), [-1])

    def test_athletes_are_numbered_from_0(self):
        told = run(begin(20), *jumps('o' * 20))
        self.assertEqual([answer[0] for answer in told[1:]], list(range(20)))
        self.assertEqual(last(begin(20), leave(19))[0], 0)
        self.assertEqual(last(begin(20), leave(20)), [-1])

    def test_a_later_begin_is_a_new_contest(self):
        old = [begin(2, 5, 2, [100]), fail(), fail(), leave(1), fail(), height(130)]
        new = [begin(3, 7, 2, [60]), up(), leave(1), fail(), skip(), up(), fail(), fail(), up(), height(61)]
        told = run(*old, *new)
        self.assertEqual(told[len(old):], [[0], [0, 60, 1], [0, 0, 60], [0, 0, 60], [2, 0, 60], [0, 60, 2],
                                           [0, 0, 60], [0, 0, 67], [2, 67, 1], [2, 0, 61]])
        self.assertEqual(told[len(old):], run(*new))

    def test_begin_when_it_is_over(self):
        self.assertEqual(run(begin(1), leave(0), begin(1, 5, 2, [90]), up()),
                         [[0], [0, 3, 100], [0], [0, 90, 1]])

    def test_begin_when_first_ones_are_alike(self):
        self.assertEqual(run(begin(2, 5, 2, [100]), *jumps('oo xxxxxx'), begin(1, 5, 2, [90]), up())[-3:],
                         [[1, 1, 105], [0], [0, 90, 1]])

    def test_nothing_of_the_contest_before_it_is_left(self):
        new = [begin(2, 7, 3, [60]), now(), order(), card(0), card(1), card(2), off(1), up(),
               *jumps('oo xxxxxx'), now(), order(), card(0), off(1), *jumps('xx ox'), order(), off(1), now()]
        alone = run(*new)
        self.assertEqual(alone[1:8], [[0, 60, 0, 1], [0], [0, 0, 0], [0, 0, 0], [-1], [-4], [0, 60, 1]])
        self.assertEqual(alone[16:20], [[1, 67], [2, 0, 1, 60, 1, 1, 60], [60, 3, 1, 60, 1, 67, 0, 67, 0, 67, 0],
                                        [2, 67]])
        self.assertEqual(alone[20:], [[0, 2, 67], [1, 2, 64], [0, 2, 64], [1, 3, 67], [2, 0, 1, 60, 1, 2, 60],
                                      [-4], [3, 67]])
        for old in ([begin(3), *jumps('xox'), leave(2)], alike(5), [*alike(5), off(0)], [*alike(5), off(1)],
                    [*two(), off(1), *jumps('oo x')], [*two(), off(1), *jumps('ox')], [begin(1), leave(0)]):
            self.assertEqual(behind(old, *new), alone)

    def test_a_refused_begin_leaves_all_as_it_was(self):
        asked = [now(), order(), card(0), up(), off(2)]
        for old in ([], [begin(3), *jumps('xox'), leave(2)], alike(5), [*alike(5), off(0)],
                    [*two(), off(1), *jumps('oo x')], [*two(), off(1), *jumps('ox')]):
            self.assertEqual(behind([*old, begin(21)], *asked), behind(old, *asked))

    def test_a_refused_begin_changes_nothing(self):
        wrong = [begin(0), begin(2, 0), begin(2, 5, 0), begin(2, 5, 2, []), begin(2, 5, 2, [49]),
                 begin(2, 5, 2, [100, 100])]
        self.assertEqual(run(begin(), fail(), *wrong, up(), clear(), up()),
                         [[0], [0, 0, 100]] + [[-1]] * 6 + [[1, 100, 1], [1, 0, 100], [0, 100, 2]])
        self.assertEqual(run(*wrong, up()), [[-1]] * 6 + [[-4]])


if __name__ == '__main__':
    unittest.main()
