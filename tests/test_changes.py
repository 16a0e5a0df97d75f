"""Promise 1: begin, strip, drop, begins, roll, unroll, pattern."""

import unittest

from patternmeets.changes import add_roll, add_strip, back, begin as begin_call, drop_roll, set_pattern
from patternmeets.works import Carpet
from tests.helper import BACK, BEST, GREATEST, Case, begin, begins, drop, gap, need, pattern, roll, strip, unroll


def begun(repeat):
    carpet = Carpet()
    begin_call(carpet, repeat)
    return carpet


def shown(pieces):
    return [(piece.long, piece.begins) for piece in pieces]


class Begin(Case):
    def test_repeats_at_the_edges(self):
        for repeat, told in ((0, -22), (1, 0), (2, 0), (119, 0), (120, 0), (121, -22), (GREATEST, -22)):
            self.check((begin(repeat), told))

    def test_a_second_begin_leaves_nothing_of_the_first(self):
        self.check(
            (begin(10), 0), (strip(5, 9), 0), (roll(50, 9), 0), (begin(20), 0),
            (BACK, -2), (BEST, 0), (drop(0), -2), (unroll(0), -2), (strip(5, 19), 0), (roll(50, 19), 0))

    def test_a_second_begin_that_is_refused_changes_nothing(self):
        self.check(
            (begin(10), 0), (strip(5, 9), 0), (roll(50, 9), 0), (begin(0), -22), (begin(121), -22),
            (BEST, [14, 0]), (strip(5, 10), -22), (strip(5, 0), 1), (roll(50, 0), 1), (BACK, 3))


class StripAndRoll(Case):
    def test_lengths_of_a_strip_at_the_edges(self):
        for long, told in ((0, -22), (1, 0), (1000, 0), (1001, -22), (10000, -22), (GREATEST, -22)):
            self.check((begin(10), 0), (strip(long, 0), told))

    def test_lengths_of_a_roll_at_the_edges(self):
        for long, told in ((0, -22), (1, 0), (1001, 0), (10000, 0), (10001, -22), (GREATEST, -22)):
            self.check((begin(10), 0), (roll(long, 0), told))

    def test_places_at_the_edges(self):
        for repeat in (1, 2, 64, 120):
            self.check((begin(repeat), 0), (strip(7, repeat - 1), 0), (strip(7, repeat), -22), (strip(7, GREATEST), -22))
            self.check((begin(repeat), 0), (roll(7, repeat - 1), 0), (roll(7, repeat), -22), (roll(7, GREATEST), -22))

    def test_six_strips_and_no_more(self):
        six = [(strip(5, k), k) for k in range(6)]
        self.check((begin(10), 0), *six, (strip(5, 6), -28), (BACK, 5), (strip(5, 6), 5), (strip(5, 6), -28))

    def test_three_rolls_and_no_more(self):
        three = [(roll(50, k), k) for k in range(3)]
        self.check((begin(10), 0), *three, (roll(50, 6), -28), (BACK, 2), (roll(50, 6), 2), (roll(50, 6), -28))

    def test_strips_and_rolls_are_counted_apart(self):
        self.check(
            (begin(10), 0), (strip(5, 0), 0), (roll(50, 0), 0), (strip(5, 0), 1), (roll(50, 0), 1), (roll(50, 0), 2),
            (strip(5, 0), 2), (roll(50, 0), -28), (strip(5, 0), 3))

    def test_what_isn_t_as_told_is_refused_ahead_of_no_room(self):
        six = [(strip(5, k), k) for k in range(6)]
        three = [(roll(50, k), k) for k in range(3)]
        self.check(
            (begin(10), 0), *six, *three, (strip(0, 0), -22), (strip(1001, 0), -22), (strip(5, 10), -22),
            (roll(0, 0), -22), (roll(10001, 0), -22), (roll(5, 10), -22))


class DropAndUnroll(Case):
    def test_those_behind_a_dropped_strip_are_numbered_one_less(self):
        self.check(
            (begin(100), 0), (strip(10, 0), 0), (strip(20, 0), 1), (strip(30, 0), 2), (strip(40, 0), 3),
            (drop(1), 3), (gap(0, 1), 90), (gap(1, 0), 70), (gap(2, 0), 60), (gap(3, 0), -2), (drop(3), -2),
            (drop(2), 2), (drop(0), 1), (need(0), [30, 0]), (drop(0), 0), (drop(0), -2), (BEST, 0))

    def test_a_dropped_strip_comes_back_where_it_was(self):
        self.check(
            (begin(100), 0), (strip(10, 0), 0), (strip(20, 0), 1), (strip(30, 0), 2),
            (drop(1), 2), (BACK, 3), (gap(0, 1), 90), (gap(1, 2), 80), (gap(2, 0), 70), (drop(2), 2))

    def test_a_dropped_strip_makes_room(self):
        six = [(strip(5, k), k) for k in range(6)]
        self.check((begin(10), 0), *six, (drop(2), 5), (strip(5, 9), 5), (strip(5, 9), -28))

    def test_no_such_strip(self):
        self.check((begin(10), 0), (drop(0), -2), (strip(5, 0), 0), (drop(1), -2), (drop(GREATEST), -2), (drop(0), 0))

    def test_how_many_rolls_are_left(self):
        self.check(
            (begin(10), 0), (unroll(0), -2), (roll(50, 0), 0), (roll(60, 0), 1), (roll(70, 0), 2), (unroll(3), -2),
            (unroll(GREATEST), -2), (unroll(1), 2), (unroll(2), -2), (roll(80, 0), 2), (unroll(2), 2), (unroll(0), 1),
            (unroll(0), 0), (unroll(0), -2))

    def test_those_behind_a_roll_are_numbered_one_less_till_it_is_back(self):
        carpet = begun(10)
        for k in range(3):
            add_roll(carpet, 50 + k, k)
        self.assertEqual(drop_roll(carpet, 1), [2])
        self.assertEqual(shown(carpet.rolls), [(50, 0), (52, 2)])
        self.assertEqual(back(carpet), [3])
        self.assertEqual(shown(carpet.rolls), [(50, 0), (51, 1), (52, 2)])

    def test_a_roll_gone_leaves_the_strips(self):
        self.check((begin(10), 0), (strip(5, 3), 0), (roll(50, 0), 0), (unroll(0), 0), (BEST, [8, 0]))


class Begins(Case):
    def test_where_it_did(self):
        self.check(
            (begin(10), 0), (strip(5, 3), 0), (strip(5, 4), 1), (begins(0, 9), 3), (begins(0, 0), 9), (begins(1, 7), 4),
            (need(0, 1), [12, 2]), (begins(1, 7), 7))

    def test_the_length_stays(self):
        self.check((begin(10), 0), (strip(15, 3), 0), (begins(0, 2), 3), (need(0), [17, 2]))

    def test_refusals(self):
        self.check(
            (begin(10), 0), (begins(0, 0), -2), (begins(0, 10), -2), (strip(5, 3), 0), (begins(1, 0), -2),
            (begins(1, 10), -2), (begins(GREATEST, GREATEST), -2), (begins(0, 10), -22), (begins(0, GREATEST), -22),
            (begins(0, 9), 3))


class Pattern(Case):
    def test_what_goes_into_the_repeat(self):
        for repeat in range(1, 121):
            for r in list(range(0, 125)) + [240, GREATEST]:
                goes = r > 0 and repeat % r == 0
                self.check((begin(repeat), 0), (pattern(r), repeat if goes else -22))

    def test_it_answers_what_the_repeat_was(self):
        self.check(
            (begin(120), 0), (pattern(60), 120), (pattern(60), 60), (pattern(120), -22), (pattern(40), -22),
            (pattern(20), 60), (pattern(1), 20), (pattern(1), 1), (pattern(0), -22))

    def test_places_of_strips(self):
        self.check(
            (begin(12), 0), (strip(5, 11), 0), (strip(7, 6), 1), (strip(7, 5), 2), (pattern(6), 12),
            (begins(0, 5), 5), (begins(1, 5), 0), (begins(2, 5), 5), (begins(2, 6), -22))

    def test_places_of_rolls(self):
        carpet = begun(12)
        add_strip(carpet, 5, 8)
        for place in (5, 6, 11):
            add_roll(carpet, 100, place)
        self.assertEqual(set_pattern(carpet, 6), [12])
        self.assertEqual(shown(carpet.rolls), [(100, 5), (100, 0), (100, 5)])
        self.assertEqual(shown(carpet.strips), [(5, 2)])
        self.assertEqual(back(carpet), [4])
        self.assertEqual(shown(carpet.rolls), [(100, 5), (100, 6), (100, 11)])
        self.assertEqual(shown(carpet.strips), [(5, 8)])
        self.assertEqual(carpet.repeat, 12)

    def test_the_new_repeat_holds_from_then_on(self):
        self.check(
            (begin(12), 0), (strip(5, 0), 0), (strip(5, 0), 1), (gap(0, 1), 7), (pattern(6), 12), (gap(0, 1), 1),
            (strip(5, 6), -22), (roll(5, 6), -22), (strip(5, 5), 2), (roll(5, 5), 0), (pattern(1), 6), (gap(0, 1), 0),
            (strip(5, 1), -22))


if __name__ == "__main__":
    unittest.main()
