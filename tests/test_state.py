"""Promise 5: look, state."""

import unittest

from tests.helper import BACK, BEST, BEST_MOVE, FITS, GREATEST, MOST, SET_MOVE, SPARE, STATE, Case, alone, begin, begins
from tests.helper import best_last, could, drop, finer, gap, look, need, pattern, roll, run, strip, unroll


class Look(Case):
    def test_where_it_ends(self):
        self.check(
            (begin(64), 0), (strip(100, 3), 0), (strip(250, 10), 1), (strip(1, 0), 2), (look(0), [100, 3, 39]),
            (look(1), [250, 10, 4]), (look(2), [1, 0, 1]))

    def test_one_that_ends_where_the_pattern_begins_anew(self):
        self.check(
            (begin(10), 0), (strip(7, 3), 0), (strip(1, 9), 1), (strip(100, 0), 2), (look(0), [7, 3, 0]),
            (look(1), [1, 9, 0]), (look(2), [100, 0, 0]))

    def test_one_just_a_repeat_long(self):
        self.check((begin(10), 0), (strip(10, 4), 0), (strip(10, 0), 1), (look(0), [10, 4, 4]), (look(1), [10, 0, 0]))

    def test_a_repeat_of_one(self):
        self.check((begin(1), 0), (strip(1000, 0), 0), (look(0), [1000, 0, 0]))

    def test_after_begins(self):
        self.check((begin(10), 0), (strip(7, 3), 0), (begins(0, 9), 3), (look(0), [7, 9, 6]), (begins(0, 10), -22),
                   (look(0), [7, 9, 6]))

    def test_after_drop(self):
        self.check(
            (begin(10), 0), (strip(7, 3), 0), (strip(8, 4), 1), (strip(9, 5), 2), (drop(1), 2), (look(0), [7, 3, 0]),
            (look(1), [9, 5, 4]), (look(2), -2), (BACK, 3), (look(1), [8, 4, 2]), (look(2), [9, 5, 4]))

    def test_after_pattern(self):
        self.check(
            (begin(12), 0), (strip(7, 11), 0), (strip(7, 6), 1), (strip(7, 5), 2), (pattern(6), 12),
            (look(0), [7, 5, 0]), (look(1), [7, 0, 1]), (look(2), [7, 5, 0]), (BACK, 3), (look(0), [7, 11, 6]),
            (look(1), [7, 6, 1]), (look(2), [7, 5, 0]))

    def test_no_such_strip(self):
        self.check((begin(10), 0), (look(0), -2), (strip(7, 3), 0), (look(1), -2), (look(GREATEST), -2),
                   (look(0), [7, 3, 0]))


class State(Case):
    def test_just_after_begin(self):
        for repeat in (1, 64, 120):
            self.check((begin(repeat), 0), (STATE, [repeat, 0, 0, 0]))

    def test_after_each_call_that_changes_something(self):
        self.check(
            (begin(12), 0), (strip(5, 11), 0), (STATE, [12, 1, 0, 1]), (roll(50, 7), 0), (STATE, [12, 1, 1, 2, 50, 7]),
            (strip(7, 6), 1), (STATE, [12, 2, 1, 3, 50, 7]), (begins(0, 10), 11), (STATE, [12, 2, 1, 4, 50, 7]),
            (roll(10000, 0), 1), (STATE, [12, 2, 2, 5, 50, 7, 10000, 0]), (SET_MOVE, 15),
            (STATE, [12, 2, 2, 6, 50, 7, 10000, 0]), (pattern(6), 12), (STATE, [6, 2, 2, 7, 50, 1, 10000, 0]),
            (drop(0), 1), (STATE, [6, 1, 2, 8, 50, 1, 10000, 0]), (unroll(0), 1), (STATE, [6, 1, 1, 9, 10000, 0]))

    def test_after_back(self):
        self.check(
            (begin(12), 0), (roll(50, 7), 0), (roll(60, 11), 1), (strip(5, 3), 0), (pattern(4), 12), (unroll(0), 1),
            (STATE, [4, 1, 1, 5, 60, 3]), (BACK, 4), (STATE, [4, 1, 2, 4, 50, 3, 60, 3]), (BACK, 3),
            (STATE, [12, 1, 2, 3, 50, 7, 60, 11]), (BACK, 2), (STATE, [12, 0, 2, 2, 50, 7, 60, 11]), (BACK, 1),
            (STATE, [12, 0, 1, 1, 50, 7]), (BACK, 0), (STATE, [12, 0, 0, 0]), (BACK, -2), (STATE, [12, 0, 0, 0]))

    def test_ten_changes_and_more(self):
        for changes in (9, 10, 11, 20):
            same = [(begins(0, 3), 3)] * (changes - 1)
            self.check((begin(10), 0), (strip(5, 3), 0), *same, (STATE, [10, 1, 0, min(changes, 10)]))

    def test_three_rolls(self):
        self.check(
            (begin(12), 0), (roll(1, 11), 0), (roll(10000, 6), 1), (roll(77, 5), 2),
            (STATE, [12, 0, 3, 3, 1, 11, 10000, 6, 77, 5]), (pattern(6), 12),
            (STATE, [6, 0, 3, 4, 1, 5, 10000, 0, 77, 5]), (unroll(1), 2), (STATE, [6, 0, 2, 5, 1, 5, 77, 5]),
            (roll(9, 2), 2), (STATE, [6, 0, 3, 6, 1, 5, 77, 5, 9, 2]))

    def test_after_a_second_begin(self):
        self.check(
            (begin(12), 0), (strip(5, 3), 0), (roll(50, 7), 0), (begin(121), -22), (STATE, [12, 1, 1, 2, 50, 7]),
            (begin(20), 0), (STATE, [20, 0, 0, 0]))

    def test_what_only_asks_and_what_is_refused_changes_nothing(self):
        full = [strip(5, 0)] * 6 + [roll(50, k) for k in range(3)]
        asks = [gap(0, 1), need(0, 1, 2, 3, 4, 5), BEST, best_last(2), finer(5), BEST_MOVE, FITS, SPARE, MOST,
                alone(0, 0), look(0), STATE]
        refused = [begin(0), strip(5, 0), strip(0, 0), drop(6), begins(6, 0), begins(0, 10), roll(5, 0), roll(0, 0),
                   unroll(3), pattern(0), pattern(3), gap(0, 0), gap(0, 6), need(), best_last(6), finer(0), SET_MOVE,
                   could(5, 0), could(0, 0), alone(6, 0), alone(0, 3), look(6)]
        told = [10, 6, 3, 9, 50, 0, 50, 1, 50, 2]
        for call in asks + refused:
            answered = run(begin(10), *full, call, STATE)
            self.assertEqual(answered[-2][0] < 0, call in refused, call)
            self.assertEqual(answered[-1], told, call)


if __name__ == "__main__":
    unittest.main()
