"""Promise 1: back."""

import unittest

from tests.helper import BACK, BEST, SET_MOVE, STATE, Case, begin, begins, drop, gap, look, need, pattern, roll, strip
from tests.helper import unroll


class Back(Case):
    def test_nothing_to_take_back(self):
        self.check((begin(10), 0), (BACK, -2), (strip(5, 0), 0), (BACK, 0), (BACK, -2), (BACK, -2), (BEST, 0))

    def test_after_strip(self):
        self.check((begin(10), 0), (strip(5, 0), 0), (strip(5, 7), 1), (BACK, 1), (BEST, [5, 0]), (strip(5, 0), 1))

    def test_after_drop(self):
        self.check((begin(10), 0), (strip(5, 3), 0), (drop(0), 0), (BACK, 1), (BEST, [8, 0]), (drop(0), 0))

    def test_after_begins(self):
        self.check((begin(10), 0), (strip(5, 3), 0), (begins(0, 9), 3), (BEST, [14, 0]), (BACK, 1), (BEST, [8, 0]))

    def test_after_roll(self):
        self.check((begin(10), 0), (roll(50, 0), 0), (roll(50, 0), 1), (BACK, 1), (unroll(1), -2), (roll(50, 0), 1))

    def test_after_unroll(self):
        self.check((begin(10), 0), (roll(50, 0), 0), (unroll(0), 0), (BACK, 1), (unroll(0), 0), (unroll(0), -2))

    def test_after_pattern(self):
        self.check(
            (begin(10), 0), (strip(5, 8), 0), (pattern(5), 10), (BEST, [8, 0]), (BACK, 1), (BEST, [13, 0]),
            (begins(0, 9), 8), (pattern(2), 10))

    def test_after_set_move(self):
        self.check(
            (begin(10), 0), (strip(5, 3), 0), (SET_MOVE, 5), (look(0), [5, 0, 5]), (BACK, 1), (look(0), [5, 3, 8]),
            (BACK, 0), (BACK, -2))

    def test_a_set_move_that_was_refused_doesn_t_count(self):
        self.check(
            (begin(10), 0), (SET_MOVE, -17), (BACK, -2), (strip(5, 0), 0), (SET_MOVE, -17), (BACK, 0),
            (STATE, [10, 0, 0, 0]))

    def test_set_moves_among_more_than_ten(self):
        # Twelve changes: the strip, the first begins, and the last ten, which can be taken back.
        first = [(strip(5, 0), 0), (begins(0, 9), 0), (SET_MOVE, 5), (begins(0, 8), 0), (SET_MOVE, 5)]
        later = [(begins(0, k), k - 1) for k in range(1, 7)] + [(SET_MOVE, 5)]
        backs = [(BACK, 9), (look(0), [5, 6, 1])] + [(BACK, k) for k in range(8, 1, -1)]
        last = [(look(0), [5, 8, 3]), (BACK, 1), (look(0), [5, 0, 5]), (BACK, 0), (look(0), [5, 9, 4]), (BACK, -2)]
        self.check((begin(10), 0), *first, *later, (STATE, [10, 1, 0, 10]), *backs, *last, (look(0), [5, 9, 4]))

    def test_all_the_way_in_turn(self):
        self.check(
            (begin(12), 0), (strip(5, 8), 0), (strip(6, 1), 1), (begins(0, 11), 8), (roll(40, 3), 0), (pattern(6), 12),
            (drop(0), 1), (unroll(0), 0),
            (BACK, 6), (unroll(1), -2), (BACK, 5), (need(0, 1), [19, 8]), (BACK, 4), (need(0, 1), [31, 20]),
            (BACK, 3), (unroll(0), -2), (BACK, 2), (need(0, 1), [19, 8]), (BACK, 1), (need(0), [13, 8]),
            (BACK, 0), (need(), [0, 0]), (BACK, -2))

    def test_the_last_ten_can_be(self):
        changes = [(begins(0, k), k - 1) for k in range(1, 15)]
        backs = [(BACK, k) for k in range(9, -1, -1)]
        self.check((begin(20), 0), (strip(5, 0), 0), *changes, *backs, (BACK, -2), (BEST, [9, 0]), (begins(0, 0), 4))

    def test_just_ten(self):
        changes = [(begins(0, k), k - 1) for k in range(1, 10)]
        backs = [(BACK, k) for k in range(9, -1, -1)]
        self.check((begin(20), 0), (strip(5, 0), 0), *changes, *backs, (BACK, -2), (BEST, 0))

    def test_just_eleven(self):
        changes = [(begins(0, k), k - 1) for k in range(1, 11)]
        backs = [(BACK, k) for k in range(9, -1, -1)]
        self.check((begin(20), 0), (strip(5, 0), 0), *changes, *backs, (BACK, -2), (BEST, [5, 0]))

    def test_one_that_left_all_as_it_was_counts(self):
        self.check(
            (begin(10), 0), (strip(5, 3), 0), (begins(0, 3), 3), (pattern(10), 10), (BACK, 2), (BEST, [8, 0]),
            (BACK, 1), (BEST, [8, 0]), (BACK, 0), (BEST, 0), (BACK, -2))

    def test_what_was_refused_doesn_t_count(self):
        self.check(
            (begin(10), 0), (strip(5, 3), 0), (strip(0, 3), -22), (drop(1), -2), (begins(0, 10), -22),
            (begins(1, 0), -2), (roll(0, 0), -22), (unroll(0), -2), (pattern(3), -22), (begin(0), -22),
            (BACK, 0), (BEST, 0), (BACK, -2))

    def test_what_only_asks_doesn_t_count(self):
        self.check(
            (begin(10), 0), (strip(5, 3), 0), (strip(5, 8), 1), (gap(0, 1), 0), (need(0, 1), [13, 3]),
            (BEST, [13, 0, 1]), (BACK, 1), (BEST, [8, 0]))

    def test_a_begin_in_between(self):
        self.check((begin(10), 0), (strip(5, 3), 0), (begin(10), 0), (BACK, -2), (strip(5, 3), 0), (BACK, 0), (BACK, -2))

    def test_back_undoes_no_back(self):
        self.check(
            (begin(10), 0), (strip(5, 1), 0), (strip(5, 2), 1), (BACK, 1), (BACK, 0), (BEST, 0), (BACK, -2), (BEST, 0))

    def test_a_change_behind_a_back(self):
        self.check(
            (begin(10), 0), (strip(5, 1), 0), (strip(5, 2), 1), (BACK, 1), (strip(5, 7), 1), (need(0, 1), [12, 2]),
            (BACK, 1), (need(0), [6, 1]), (BACK, 0), (BACK, -2))

    def test_a_refused_back_changes_nothing(self):
        changes = [(begins(0, k), k - 1) for k in range(1, 15)]
        backs = [(BACK, k) for k in range(9, -1, -1)]
        self.check((begin(20), 0), (strip(5, 0), 0), *changes, *backs, (BACK, -2), (BACK, -2), (begins(0, 1), 4),
                   (BACK, 0), (BEST, [9, 0]))


if __name__ == "__main__":
    unittest.main()
