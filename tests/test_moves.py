"""Promise 3: finer, best_move, set_move."""

import unittest

from tests.helper import BACK, BEST, BEST_MOVE, GREATEST, SET_MOVE, STATE, Case, begin, begins, finer, look, pattern, roll
from tests.helper import strip


class Finer(Case):
    def test_each_that_goes_into_the_repeat(self):
        self.check(
            (begin(12), 0), (strip(5, 11), 0), (strip(7, 6), 1), (BEST, [25, 0, 1]), (finer(12), 25), (finer(6), 16),
            (finer(4), 16), (finer(3), 13), (finer(2), 12), (finer(1), 12))

    def test_each_that_doesn_t(self):
        wrong = [(finer(r), -22) for r in (0, 5, 7, 8, 9, 10, 11, 13, 24, 120, GREATEST)]
        self.check((begin(12), 0), *wrong, (strip(5, 11), 0), *wrong, (finer(12), 16))

    def test_it_changes_nothing(self):
        self.check(
            (begin(12), 0), (strip(5, 11), 0), (strip(7, 6), 1), (roll(50, 11), 0), (finer(6), 16), (finer(1), 12),
            (finer(0), -22), (STATE, [12, 2, 1, 3, 50, 11]), (look(0), [5, 11, 4]), (look(1), [7, 6, 1]), (BACK, 2))

    def test_no_strips(self):
        self.check((begin(12), 0), (finer(12), 0), (finer(1), 0), (finer(6), 0), (finer(0), -22), (finer(5), -22))

    def test_a_repeat_of_one(self):
        self.check((begin(1), 0), (strip(7, 0), 0), (strip(9, 0), 1), (finer(1), 16), (finer(0), -22), (finer(2), -22))

    def test_it_s_measured_by_the_repeat_there_is_now(self):
        self.check(
            (begin(12), 0), (strip(5, 11), 0), (strip(7, 6), 1), (pattern(6), 12), (finer(12), -22), (finer(4), -22),
            (finer(6), 16), (finer(3), 13), (BACK, 2), (finer(4), 16))

    def test_half_the_repeat(self):
        # Strips of half a repeat: by the whole one half of it is lost ahead of the last strip, by the half one nothing.
        self.check((begin(120), 0), (strip(60, 0), 0), (strip(60, 0), 1), (strip(60, 60), 2), (strip(60, 0), 3),
                   (finer(120), 300), (finer(60), 240))


class BestMove(Case):
    def test_no_strips(self):
        self.check((begin(10), 0), (BEST_MOVE, [0, 0]), (roll(50, 3), 0), (BEST_MOVE, [0, 0]))

    def test_one_strip(self):
        self.check((begin(10), 0), (strip(5, 3), 0), (BEST_MOVE, [7, 5]))
        self.check((begin(120), 0), (strip(1000, 1), 0), (BEST_MOVE, [119, 1000]))

    def test_a_best_beginning_that_is_0(self):
        self.check((begin(10), 0), (strip(5, 0), 0), (BEST_MOVE, [0, 5]))

    def test_a_repeat_of_one(self):
        self.check((begin(1), 0), (strip(7, 0), 0), (strip(9, 0), 1), (BEST_MOVE, [0, 16]), (SET_MOVE, -17))

    def test_the_order_that_has_least_between(self):
        self.check((begin(64), 0), (strip(100, 3), 0), (strip(250, 10), 1), (BEST_MOVE, [61, 385]))

    def test_the_first_strip_is_another_than_now(self):
        # Now 1, 0 is best (12: 0 to 3, 5 to 12). Between 0 and 1 nothing is lost: moved on by 7, 0, 1 is best.
        self.check(
            (begin(12), 0), (strip(7, 5), 0), (strip(3, 0), 1), (BEST, [12, 1, 0]), (BEST_MOVE, [7, 10]), (SET_MOVE, 10),
            (BEST, [10, 0, 1]))

    def test_of_several_the_least(self):
        self.check((begin(10), 0), (strip(5, 8), 0), (strip(5, 3), 1), (BEST_MOVE, [2, 10]))
        self.check((begin(10), 0), (strip(5, 3), 0), (strip(5, 8), 1), (BEST_MOVE, [2, 10]))
        self.check((begin(10), 0), (strip(5, 5), 0), (strip(5, 0), 1), (BEST_MOVE, [0, 10]))
        six = [(strip(10, 55 - 10 * k), k) for k in range(6)]
        self.check((begin(60), 0), *six, (BEST_MOVE, [5, 60]))

    def test_it_changes_nothing(self):
        self.check((begin(10), 0), (strip(5, 3), 0), (BEST_MOVE, [7, 5]), (BEST_MOVE, [7, 5]), (look(0), [5, 3, 8]),
                   (STATE, [10, 1, 0, 1]))


class SetMove(Case):
    def test_no_strips(self):
        self.check((begin(10), 0), (SET_MOVE, -17), (roll(50, 3), 0), (SET_MOVE, -17), (STATE, [10, 0, 1, 1, 50, 3]))

    def test_what_it_leaves(self):
        self.check(
            (begin(64), 0), (strip(100, 3), 0), (strip(250, 10), 1), (SET_MOVE, 385), (look(0), [100, 0, 36]),
            (look(1), [250, 7, 1]), (BEST, [385, 0, 1]), (BEST_MOVE, [0, 385]), (STATE, [64, 2, 0, 3]))

    def test_twice(self):
        self.check(
            (begin(10), 0), (strip(5, 3), 0), (SET_MOVE, 5), (SET_MOVE, -17), (STATE, [10, 1, 0, 2]),
            (look(0), [5, 0, 5]), (begins(0, 9), 0), (SET_MOVE, 5), (look(0), [5, 0, 5]), (STATE, [10, 1, 0, 4]))

    def test_a_best_beginning_that_is_0(self):
        self.check(
            (begin(10), 0), (strip(5, 5), 0), (strip(5, 0), 1), (SET_MOVE, -17), (look(0), [5, 5, 0]),
            (look(1), [5, 0, 5]), (STATE, [10, 2, 0, 2]))

    def test_rolls_don_t_move_with_the_strips(self):
        self.check(
            (begin(10), 0), (roll(50, 9), 0), (strip(5, 3), 0), (roll(60, 0), 1), (SET_MOVE, 5),
            (STATE, [10, 1, 2, 4, 50, 9, 60, 0]))

    def test_after_pattern(self):
        self.check(
            (begin(12), 0), (strip(5, 11), 0), (strip(7, 6), 1), (pattern(6), 12), (BEST_MOVE, [1, 14]), (SET_MOVE, 14),
            (look(0), [5, 0, 5]), (look(1), [7, 1, 2]), (BACK, 3), (look(0), [5, 5, 4]), (look(1), [7, 0, 1]),
            (BACK, 2), (look(0), [5, 11, 4]), (look(1), [7, 6, 1]))

    def test_a_refused_one_is_not_there_to_be_taken_back(self):
        self.check(
            (begin(10), 0), (strip(5, 3), 0), (SET_MOVE, 5), (SET_MOVE, -17), (BACK, 1), (look(0), [5, 3, 8]),
            (BACK, 0), (SET_MOVE, -17), (BACK, -2))

    def test_of_several_the_least(self):
        self.check(
            (begin(10), 0), (strip(5, 3), 0), (strip(5, 8), 1), (SET_MOVE, 10), (look(0), [5, 5, 0]),
            (look(1), [5, 0, 5]), (BEST, [10, 1, 0]))


if __name__ == "__main__":
    unittest.main()
