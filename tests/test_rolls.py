"""Promises 4 and 5: fits, spare, most, could, alone."""

import unittest

from tests.helper import BACK, BEST, FITS, GREATEST, MOST, SPARE, STATE, Case, alone, begin, could, drop, pattern, roll
from tests.helper import strip, unroll


def each(calls):
    """Each call with its place among them: what strip and roll answer."""
    return [(call, k) for k, call in enumerate(calls)]


class FitsAndSpare(Case):
    def test_no_rolls(self):
        self.check(
            (begin(10), 0), (FITS, -6), (SPARE, -6), (strip(5, 3), 0), (FITS, -6), (SPARE, -6), (roll(50, 0), 0),
            (FITS, [1, 0]), (unroll(0), 0), (FITS, -6), (SPARE, -6))

    def test_no_strips(self):
        self.check(
            (begin(10), 0), (roll(50, 3), 0), (FITS, 0), (SPARE, [1, 50]), (roll(1, 9), 1), (FITS, 0),
            (SPARE, [2, 50, 1]))

    def test_just_long_enough(self):
        self.check((begin(10), 0), (strip(5, 3), 0), (roll(8, 0), 0), (FITS, [1, 0]), (SPARE, [1, 0]))
        self.check((begin(10), 0), (strip(5, 3), 0), (roll(9, 0), 0), (FITS, [1, 0]), (SPARE, [1, 1]))

    def test_one_centimetre_too_short(self):
        self.check((begin(10), 0), (strip(5, 3), 0), (roll(7, 0), 0), (FITS, -33), (SPARE, -33))

    def test_a_roll_that_begins_within_the_pattern(self):
        for long, place, spare in ((5, 3, 0), (14, 4, 0), (16, 2, 10), (50, 9, 41)):
            self.check(
                (begin(10), 0), (strip(5, 3), 0), (roll(long, place), 0), (FITS, [1, 0]), (SPARE, [1, spare]))
        for long, place in ((4, 3), (13, 4), (5, 2), (8, 9)):
            self.check((begin(10), 0), (strip(5, 3), 0), (roll(long, place), 0), (FITS, -33), (SPARE, -33))

    def test_the_order_is_the_best_one_for_that_roll(self):
        # From place 0 on 1, 0 is best; from place 5 on 0, 1 is, and 1, 0 would need 15.
        self.check(
            (begin(10), 0), (strip(5, 5), 0), (strip(5, 0), 1), (BEST, [10, 1, 0]), (roll(10, 5), 0),
            (FITS, [2, 0, 0]), (SPARE, [1, 0]))

    def test_the_first_way_of_several(self):
        self.check(
            (begin(10), 0), (strip(5, 0), 0), (strip(5, 0), 1), (roll(5, 0), 0), (roll(5, 0), 1), (FITS, [2, 0, 1]),
            (SPARE, [2, 0, 0]))
        self.check(
            (begin(10), 0), (strip(5, 0), 0), (strip(6, 0), 1), (strip(5, 0), 2), (roll(15, 0), 0), (roll(6, 0), 1),
            (FITS, [3, 0, 0, 1]), (SPARE, [2, 0, 1]))

    def test_a_roll_that_is_given_no_strip(self):
        self.check(
            (begin(10), 0), (strip(5, 0), 0), (strip(5, 0), 1), (roll(4, 0), 0), (roll(15, 0), 1), (roll(99, 3), 2),
            (FITS, [2, 1, 1]), (SPARE, [3, 4, 0, 99]))

    def test_the_lesser_roll_is_not_always_the_one(self):
        # Strip 0 would fit roll 0, but then strip 1 fits none.
        self.check(
            (begin(10), 0), (strip(5, 0), 0), (strip(20, 0), 1), (roll(20, 0), 0), (roll(5, 0), 1), (FITS, [2, 1, 0]),
            (SPARE, [2, 0, 0]))

    def test_six_strips_for_three_rolls(self):
        six = each([strip(10, 0)] * 6)
        self.check(
            (begin(10), 0), *six, *each([roll(20, 0)] * 3), (FITS, [6, 0, 0, 1, 1, 2, 2]), (SPARE, [3, 0, 0, 0]))
        self.check(
            (begin(10), 0), *six, *each([roll(20, 0), roll(20, 0), roll(19, 0)]), (FITS, -33), (SPARE, -33))
        self.check(
            (begin(10), 0), *six, *each([roll(9, 0), roll(31, 0), roll(39, 1)]), (FITS, [6, 1, 1, 1, 2, 2, 2]),
            (SPARE, [3, 9, 1, 0]))

    def test_one_way_alone(self):
        # The strips are just as long as the rolls together, so nothing may be lost anywhere:
        # 1, 5 from roll 0, 3, 0 from roll 1, 4, 2 from roll 2.
        six = each([strip(13, 7), strip(6, 2), strip(11, 9), strip(7, 0), strip(4, 5), strip(24, 8)])
        self.check(
            (begin(10), 0), *six, *each([roll(30, 2), roll(20, 0), roll(15, 5)]), (FITS, [6, 1, 0, 2, 1, 2, 0]),
            (SPARE, [3, 0, 0, 0]), (MOST, [6, 63]))
        for rolls in ([roll(29, 2), roll(20, 0), roll(15, 5)], [roll(30, 2), roll(19, 0), roll(15, 5)],
                      [roll(30, 2), roll(20, 0), roll(14, 5)], [roll(30, 3), roll(20, 0), roll(15, 5)]):
            self.check((begin(10), 0), *six, *each(rolls), (FITS, -33), (SPARE, -33))

    def test_the_longest_there_are(self):
        self.check(
            (begin(120), 0), *each([strip(1000, 119)] * 6), *each([roll(10000, 0)] * 3),
            (FITS, [6, 0, 0, 0, 0, 0, 0]), (SPARE, [3, 10000 - 6519, 10000, 10000]))

    def test_after_pattern(self):
        self.check(
            (begin(10), 0), (strip(5, 8), 0), (roll(5, 3), 0), (FITS, -33), (pattern(5), 10), (FITS, [1, 0]),
            (SPARE, [1, 0]), (BACK, 2), (FITS, -33))

    def test_they_change_nothing(self):
        self.check(
            (begin(10), 0), (strip(5, 3), 0), (roll(8, 0), 0), (FITS, [1, 0]), (SPARE, [1, 0]), (MOST, [1, 1]),
            (alone(0, 0), [1, 8]), (FITS, [1, 0]), (STATE, [10, 1, 1, 2, 8, 0]), (BACK, 1))


class Most(Case):
    def test_no_rolls(self):
        self.check((begin(10), 0), (MOST, -6), (strip(5, 3), 0), (MOST, -6))

    def test_no_strips(self):
        self.check((begin(10), 0), (roll(50, 3), 0), (MOST, [0, 0]))

    def test_none_fits(self):
        self.check((begin(10), 0), (strip(5, 3), 0), (strip(5, 3), 1), (roll(7, 0), 0), (roll(4, 3), 1), (MOST, [0, 0]))

    def test_all_fit(self):
        self.check((begin(10), 0), (strip(5, 3), 0), (roll(8, 0), 0), (MOST, [1, 1]), (strip(5, 8), 1), (MOST, [1, 1]),
                   (roll(5, 8), 1), (MOST, [2, 3]))

    def test_like_sets(self):
        self.check((begin(5), 0), *each([strip(5, 0)] * 3), (roll(10, 0), 0), (MOST, [2, 3]))
        self.check((begin(5), 0), *each([strip(20, 0)] + [strip(5, 0)] * 3), (roll(10, 0), 0), (MOST, [2, 6]))

    def test_more_strips_go_ahead_of_a_lesser_number(self):
        self.check((begin(5), 0), *each([strip(10, 0), strip(5, 0), strip(5, 0)]), (roll(10, 0), 0), (MOST, [2, 6]))

    def test_the_least_number_is_not_the_first_strip(self):
        # Strip 0 fits with neither 1 nor 2 (which would be 3 and 5); 1 and 2 fit (6), and so do 0 and 3 (9).
        self.check(
            (begin(10), 0), *each([strip(13, 0), strip(9, 1), strip(11, 0), strip(7, 3)]), (roll(20, 0), 0),
            (MOST, [2, 6]))

    def test_six_strips_for_three_rolls(self):
        six = each([strip(10, 0)] * 6)
        self.check((begin(10), 0), *six, *each([roll(20, 0)] * 3), (MOST, [6, 63]))
        self.check((begin(10), 0), *six, *each([roll(20, 0), roll(20, 0), roll(19, 0)]), (MOST, [5, 31]))
        self.check((begin(10), 0), *six, *each([roll(20, 1), roll(9, 0), roll(19, 0)]), (MOST, [2, 3]))
        apart = each([strip(30, 0), strip(10, 0), strip(30, 0), strip(10, 0), strip(30, 0), strip(10, 0)])
        self.check((begin(10), 0), *apart, *each([roll(10, 0), roll(10, 0), roll(30, 0)]), (MOST, [3, 11]))
        self.check((begin(10), 0), *apart, *each([roll(10, 0), roll(20, 0), roll(30, 0)]), (MOST, [4, 43]))

    def test_a_roll_that_begins_within_the_pattern(self):
        self.check(
            (begin(10), 0), (strip(5, 3), 0), (strip(5, 8), 1), (roll(9, 8), 0), (MOST, [1, 2]), (roll(9, 3), 1),
            (MOST, [2, 3]))


class Could(Case):
    def test_one_more(self):
        self.check(
            (begin(10), 0), (roll(15, 0), 0), (could(15, 0), 1), (could(16, 0), 0), (could(6, 9), 1), (could(7, 9), 0),
            (strip(5, 0), 0), (could(5, 0), 1), (could(10, 0), 1), (could(11, 0), 0), (could(10, 5), 1), (could(11, 5), 0))

    def test_all_must_fit(self):
        self.check(
            (begin(10), 0), (strip(20, 0), 0), (roll(10, 0), 0), (could(1, 0), 0), (roll(20, 5), 1), (could(1, 0), 0),
            (roll(25, 5), 2), (could(1, 0), 1), (could(10, 0), 1), (could(11, 0), 1), (could(16, 0), 0))

    def test_without_rolls(self):
        self.check((begin(10), 0), (could(1, 0), 0), (strip(5, 0), 0), (could(1, 0), 0), (could(0, 0), -22))

    def test_refused_as_strip_is(self):
        g = GREATEST
        wrong = [(could(*two), -22) for two in ((0, 0), (1001, 0), (g, 0), (5, 10), (5, g), (0, 10), (g, g))]
        self.check(
            (begin(10), 0), *wrong, (roll(1000, 0), 0), *wrong, (could(1000, 0), 1), (could(1000, 9), 0), (could(1, 9), 1),
            *each([strip(1, 0)] * 6), (could(1, 0), -28), (could(1000, 9), -28), *wrong, (unroll(0), 0),
            (could(1, 0), -28), *wrong, (drop(5), 5), (could(1, 0), 0))

    def test_as_the_sixth(self):
        five = each([strip(10, 0)] * 5)
        self.check(
            (begin(10), 0), *five, *each([roll(20, 0)] * 3), (could(10, 0), 1), (could(11, 0), 0), (could(9, 1), 1),
            (could(9, 2), 0), (could(1, 0), 1))

    def test_it_changes_nothing(self):
        self.check(
            (begin(10), 0), (roll(15, 0), 0), (strip(5, 0), 0), (could(5, 0), 1), (could(11, 0), 0), (could(0, 0), -22),
            (STATE, [10, 1, 1, 2, 15, 0]), (FITS, [1, 0]), (BACK, 1), (BACK, 0), (BACK, -2))


class Alone(Case):
    def test_just_long_enough_and_one_too_short(self):
        self.check(
            (begin(10), 0), (strip(5, 3), 0), (roll(8, 0), 0), (roll(7, 0), 1), (roll(9, 0), 2), (alone(0, 0), [1, 8]),
            (alone(0, 1), [0, 8]), (alone(0, 2), [1, 8]))

    def test_a_roll_that_begins_within_the_pattern(self):
        self.check(
            (begin(10), 0), (strip(5, 3), 0), (roll(5, 3), 0), (roll(13, 4), 1), (roll(14, 4), 2),
            (alone(0, 0), [1, 5]), (alone(0, 1), [0, 14]), (alone(0, 2), [1, 14]))

    def test_other_strips_don_t_matter(self):
        self.check(
            (begin(10), 0), (strip(5, 3), 0), (strip(900, 1), 1), (roll(8, 0), 0), (roll(1000, 2), 1),
            (alone(0, 0), [1, 8]), (alone(1, 0), [0, 901]), (alone(0, 1), [1, 6]), (alone(1, 1), [1, 909]), (FITS, [2, 0, 1]))

    def test_no_such_strip_or_roll(self):
        g = GREATEST
        self.check(
            (begin(10), 0), (alone(0, 0), -2), (strip(5, 3), 0), (alone(0, 0), -2), (strip(5, 3), 1), (roll(8, 0), 0),
            (alone(1, 0), [1, 8]), (alone(0, 1), -2), (alone(2, 0), -2), (alone(2, 1), -2), (alone(g, 0), -2),
            (alone(0, g), -2), (alone(g, g), -2), (drop(0), 1), (drop(0), 0), (alone(0, 0), -2))

    def test_a_repeat_of_one(self):
        self.check((begin(1), 0), (strip(7, 0), 0), (roll(7, 0), 0), (roll(6, 0), 1), (alone(0, 0), [1, 7]),
                   (alone(0, 1), [0, 7]))


if __name__ == "__main__":
    unittest.main()
