"""Promise 2: gap, need, best, best_last."""

import unittest

from tests.helper import BACK, BEST, GREATEST, Case, begin, best_last, drop, gap, need, run, strip


class Gap(Case):
    def test_between_two(self):
        self.check(
            (begin(64), 0), (strip(100, 3), 0), (strip(250, 10), 1), (gap(0, 1), 35), (gap(1, 0), 63))

    def test_one_that_ends_where_the_next_must_begin(self):
        self.check((begin(10), 0), (strip(25, 3), 0), (strip(5, 8), 1), (gap(0, 1), 0), (gap(1, 0), 0))

    def test_one_short_of_it_and_one_past_it(self):
        self.check(
            (begin(10), 0), (strip(24, 3), 0), (strip(26, 3), 1), (strip(5, 8), 2), (gap(0, 2), 1), (gap(1, 2), 9))

    def test_a_strip_just_a_repeat_long(self):
        self.check(
            (begin(10), 0), (strip(10, 4), 0), (strip(10, 4), 1), (strip(10, 5), 2), (gap(0, 1), 0), (gap(0, 2), 1),
            (gap(2, 0), 9))

    def test_a_repeat_of_one(self):
        self.check((begin(1), 0), (strip(7, 0), 0), (strip(1000, 0), 1), (gap(0, 1), 0), (gap(1, 0), 0))

    def test_refusals(self):
        self.check(
            (begin(10), 0), (gap(0, 0), -2), (gap(0, 1), -2), (strip(5, 0), 0), (gap(0, 0), -22), (gap(0, 1), -2),
            (gap(1, 0), -2), (gap(1, 1), -2), (gap(GREATEST, GREATEST), -2), (strip(5, 0), 1), (gap(1, 1), -22),
            (gap(0, 1), 5))


class Need(Case):
    def test_each_order(self):
        self.check(
            (begin(64), 0), (strip(100, 3), 0), (strip(250, 10), 1), (need(0, 1), [388, 38]), (need(1, 0), [423, 73]))

    def test_no_strips(self):
        self.check((begin(64), 0), (need(), [0, 0]), (need(0), -22), (strip(5, 0), 0), (need(), -22), (drop(0), 0),
                   (need(), [0, 0]))

    def test_the_first_one_from_place_0_on(self):
        self.check((begin(64), 0), (strip(100, 0), 0), (need(0), [100, 0]))
        self.check((begin(64), 0), (strip(100, 63), 0), (need(0), [163, 63]))

    def test_rows_that_are_not_all_strips_each_once(self):
        rows = [(), (0,), (0, 1), (0, 1, 1), (0, 0, 0), (0, 1, 3), (0, 1, GREATEST), (3, 4, 5), (0, 1, 2, 2),
                (0, 1, 2, 3), (0, 1, 2, 0, 1, 2, 0, 1), (0, 1, 2, 3, 4, 5, 6, 7), (GREATEST,) * 8]
        refused = [(need(*row), -22) for row in rows]
        self.check(
            (begin(10), 0), (strip(5, 0), 0), (strip(5, 0), 1), (strip(5, 0), 2), *refused, (need(2, 0, 1), [25, 10]))

    def test_eight_numbers_where_there_are_six_strips(self):
        six = [(strip(5, 0), k) for k in range(6)]
        self.check(
            (begin(5), 0), *six, (need(0, 1, 2, 3, 4, 5, 0, 1), -22), (need(0, 1, 2, 3, 4, 5, 6, 7), -22),
            (need(0, 1, 2, 3, 4, 5, 6), -22), (need(5, 4, 3, 2, 1, 0), [30, 0]))

    def test_a_repeat_of_one_wastes_nothing(self):
        self.check((begin(1), 0), (strip(7, 0), 0), (strip(1000, 0), 1), (need(1, 0), [1007, 0]))

    def test_strips_just_a_repeat_long(self):
        self.check((begin(10), 0), (strip(10, 4), 0), (strip(10, 4), 1), (need(0, 1), [24, 4]))


class Best(Case):
    def test_no_strips(self):
        self.check((begin(64), 0), (BEST, 0))

    def test_one_strip(self):
        self.check((begin(64), 0), (strip(1000, 63), 0), (BEST, [1063, 0]))

    def test_the_lesser_need(self):
        self.check((begin(64), 0), (strip(100, 3), 0), (strip(250, 10), 1), (BEST, [388, 0, 1]))
        self.check((begin(64), 0), (strip(250, 10), 0), (strip(100, 3), 1), (BEST, [388, 1, 0]))

    def test_strips_alike_stay_in_their_order(self):
        six = [(strip(7, 3), k) for k in range(6)]
        self.check((begin(10), 0), *six, (BEST, [60, 0, 1, 2, 3, 4, 5]))

    def test_a_repeat_of_one_keeps_the_order(self):
        self.check((begin(1), 0), (strip(9, 0), 0), (strip(4, 0), 1), (strip(6, 0), 2), (BEST, [19, 0, 1, 2]))

    def test_the_least_of_all_orders_of_three(self):
        self.check(
            (begin(10), 0), (strip(3, 3), 0), (strip(3, 0), 1), (strip(3, 7), 2),
            (need(0, 1, 2), [20, 11]), (need(0, 2, 1), [13, 4]), (need(1, 0, 2), [10, 1]), (need(1, 2, 0), [16, 7]),
            (need(2, 0, 1), [23, 14]), (need(2, 1, 0), [16, 7]), (BEST, [10, 1, 0, 2]))

    def test_the_first_of_two_that_need_the_same(self):
        # Two orders end in 20. Of these the first begins with 5 lost, the second with nothing lost.
        self.check(
            (begin(10), 0), (strip(5, 5), 0), (strip(5, 0), 1), (strip(5, 5), 2),
            (need(0, 1, 2), [20, 5]), (need(1, 0, 2), [20, 5]), (need(0, 2, 1), [25, 10]), (BEST, [20, 0, 1, 2]))

    def test_six_strips_that_follow_one_another(self):
        # Each ends where the one before it in number must begin.
        six = [(strip(10, 50 - 10 * k), k) for k in range(6)]
        self.check((begin(60), 0), *six, (BEST, [60, 5, 4, 3, 2, 1, 0]))

    def test_six_long_strips(self):
        answered = run(begin(120), *[strip(1000, 119)] * 6, BEST)[-1]
        # 1000 is 8 repeats and 40: each but the last leaves 80 ahead of the next.
        self.assertEqual(answered, [119 + 6 * 1000 + 5 * 80, 0, 1, 2, 3, 4, 5])


class BestLast(Case):
    def test_one_strip(self):
        self.check((begin(64), 0), (strip(100, 3), 0), (best_last(0), 103))

    def test_each_of_two(self):
        self.check(
            (begin(64), 0), (strip(100, 3), 0), (strip(250, 10), 1), (best_last(0), 423), (best_last(1), 388))

    def test_each_of_three(self):
        # What each of the six orders needs is told in Best, above.
        self.check(
            (begin(10), 0), (strip(3, 3), 0), (strip(3, 0), 1), (strip(3, 7), 2),
            (best_last(0), 16), (best_last(1), 13), (best_last(2), 10), (best_last(3), -2))

    def test_each_of_six(self):
        # Each ends where the one before it in number must begin, and strip 0 ends where strip 5 must begin:
        # with strip k last it's best to begin with strip k - 1, which leaves 60 - 10 k ahead of it.
        six = [(strip(10, 50 - 10 * k), k) for k in range(6)]
        self.check(
            (begin(60), 0), *six, (best_last(0), 60), (best_last(1), 110), (best_last(2), 100), (best_last(3), 90),
            (best_last(4), 80), (best_last(5), 70), (best_last(6), -2))

    def test_strips_alike(self):
        six = [(strip(7, 3), k) for k in range(6)]
        self.check((begin(10), 0), *six, *[(best_last(k), 60) for k in range(6)])

    def test_a_repeat_of_one(self):
        self.check((begin(1), 0), (strip(9, 0), 0), (strip(4, 0), 1), (best_last(0), 13), (best_last(1), 13))

    def test_no_such_strip(self):
        self.check(
            (begin(10), 0), (best_last(0), -2), (strip(5, 3), 0), (best_last(1), -2), (best_last(GREATEST), -2),
            (best_last(0), 8), (drop(0), 0), (best_last(0), -2))

    def test_it_changes_nothing(self):
        self.check(
            (begin(10), 0), (strip(5, 3), 0), (strip(5, 8), 1), (best_last(0), 18), (best_last(0), 18),
            (BEST, [13, 0, 1]), (BACK, 1))


if __name__ == "__main__":
    unittest.main()
