"""How calls are written and answered; what is answered ahead of a begin; that nothing is kept."""

import contextlib
import io
import unittest

from patternmeets.carpets import answers
from tests.helper import BACK, BEST, BEST_MOVE, FITS, GREATEST, MOST, SET_MOVE, SPARE, STATE, Case, alone, begin
from tests.helper import begins, best_last, could, drop, finer, gap, joined, look, need, pattern, roll, strip, taken_apart
from tests.helper import unroll

OTHERS = [strip(5, 0), drop(0), begins(0, 0), roll(5, 0), unroll(0), pattern(1), BACK, gap(0, 1), need(), need(0, 1),
          need(*[GREATEST] * 8), BEST, strip(0, 0), begins(GREATEST, GREATEST), gap(0, 0), pattern(0), best_last(0),
          best_last(GREATEST), finer(1), finer(0), BEST_MOVE, SET_MOVE, FITS, SPARE, MOST, could(5, 0), could(0, 0),
          alone(0, 0), alone(GREATEST, GREATEST), look(0), look(GREATEST), STATE]


class Form(Case):
    def test_one_list_in_one_list_out(self):
        self.assertEqual(
            answers([0, 64, 1, 100, 3, 1, 250, 10, 4, 500, 63, 8, 0, 1, 9, 2, 1, 0, 10, 3, 1, 9, 2, 0, 5, 0, 6, 32, 7, 9, 0]),
            [1, 0, 1, 0, 1, 1, 1, 0, 1, 35, 2, 423, 73, 3, 388, 0, 1, 1, 10, 1, 1, 1, 0, 1, 64, 1, 6, 1, -22])

    def test_one_list_of_all_that_asks(self):
        self.assertEqual(
            answers([0, 64, 1, 100, 3, 1, 250, 10, 4, 500, 63, 11, 0, 12, 32, 13, 15, 16, 17, 18, 99, 39, 18, 120, 39,
                     19, 1, 0, 20, 1, 14, 14, 21, 15]),
            [1, 0, 1, 0, 1, 1, 1, 0, 1, 423, 1, 356, 2, 61, 385, 3, 2, 0, 0, 2, 1, 111, 2, 2, 3, 1, 1, 1, 0,
             2, 1, 261, 3, 250, 10, 4, 1, 385, 1, -17, 6, 64, 2, 1, 4, 500, 63, 3, 2, 0, 0])

    def test_each_call_alone(self):
        self.assertEqual(answers([0, 1]), [1, 0])
        self.assertEqual(answers([0, 0]), [1, -22])
        self.assertEqual(answers([7]), [1, -61])

    def test_a_row_of_none_and_a_row_of_eight_are_read_whole(self):
        # What stands in the row would be calls, were it not read as a row.
        self.check((begin(10), 0), (need(), [0, 0]), (need(0, 5, 1, 5, 5, 7, 7, 7), -22), (BEST, 0), (BACK, -2))

    def test_a_hundred_calls(self):
        calls = [begin(120)] + [strip(997, k * 19) for k in range(6)] + [BEST] * 93
        given = answers(joined(calls))
        self.assertEqual(given[:14], [1, 0, 1, 0, 1, 1, 1, 2, 1, 3, 1, 4, 1, 5])
        self.assertEqual(given[14:], given[14:22] * 93)
        self.assertEqual(given[14], 7)

    def test_a_hundred_calls_of_each_that_asks(self):
        made = [begin(120)] + [strip(990 + k, 5 + k * 19) for k in range(6)] + [roll(2200 + k, k * 37) for k in range(3)]
        for call in (best_last(3), finer(60), BEST_MOVE, SET_MOVE, FITS, SPARE, MOST, look(5), alone(5, 2), STATE):
            calls = made + [call] * 90
            told = taken_apart(answers(joined(calls)))
            self.assertEqual(len(told), 100)
            # The first set_move is answered, and those behind it are refused.
            self.assertEqual(told[11:], told[11:12] * 89, call)
            self.assertEqual(told[10] == told[11], call != SET_MOVE, call)
        told = taken_apart(answers(joined(made[:6] + made[7:] + [could(995, 100)] * 91)))
        self.assertEqual(told[9:], [[1]] * 91)

    def test_whole_numbers_alone_are_answered(self):
        calls = [begin(12), strip(5, 0), strip(7, 6), gap(0, 1), need(1, 0), BEST, pattern(6), drop(0), BACK, gap(1, 1),
                 best_last(0), finer(3), BEST_MOVE, SET_MOVE, FITS, roll(50, 5), FITS, SPARE, MOST, could(5, 5),
                 could(900, 5), alone(0, 0), look(0), STATE]
        given = answers(joined(calls))
        self.assertIs(type(given), list)
        self.assertEqual({type(number) for number in given}, {int})


class NotBegun(Case):
    def test_every_other_call_ahead_of_a_begin(self):
        for call in OTHERS:
            self.check((call, -61), (begin(10), 0), (BACK, -2), (BEST, 0), (unroll(0), -2))

    def test_every_other_call_after_a_begin_that_was_refused(self):
        for call in OTHERS:
            self.check((begin(0), -22), (call, -61), (begin(121), -22), (call, -61), (begin(120), 0), (BACK, -2))

    def test_all_of_them_in_turn(self):
        self.check(*[(call, -61) for call in OTHERS], (begin(10), 0), (need(), [0, 0]), (roll(5, 0), 0), (BACK, 0))


class Greatest(Case):
    def test_numbers_as_great_as_can_be(self):
        g = GREATEST
        self.check(
            (begin(g), -22), (begin(10), 0), (strip(5, 3), 0), (strip(g, 0), -22), (strip(5, g), -22), (strip(g, g), -22),
            (drop(g), -2), (begins(g, 0), -2), (begins(0, g), -22), (begins(g, g), -2), (roll(g, 0), -22),
            (roll(5, g), -22), (roll(g, g), -22), (unroll(g), -2), (pattern(g), -22), (gap(g, 0), -2), (gap(0, g), -2),
            (gap(g, g), -2), (need(g), -22), (need(*[g] * 8), -22), (begin(g), -22), (BEST, [8, 0]), (BACK, 0))

    def test_numbers_as_great_as_can_be_where_it_s_asked(self):
        g = GREATEST
        self.check(
            (begin(10), 0), (strip(5, 3), 0), (roll(8, 0), 0), (best_last(g), -2), (finer(g), -22), (could(g, 0), -22),
            (could(5, g), -22), (could(g, g), -22), (alone(g, 0), -2), (alone(0, g), -2), (alone(g, g), -2),
            (look(g), -2), (STATE, [10, 1, 1, 2, 8, 0]))


class SeveralRefusals(Case):
    def test_the_one_told_first_is_answered(self):
        six = [(strip(5, 0), k) for k in range(6)]
        self.check(
            (begin(10), 0), *six, (FITS, -6), (SPARE, -6), (MOST, -6), (could(0, 0), -22), (could(5, 10), -22),
            (could(5, 0), -28), (begins(6, 10), -2), (gap(6, 6), -2), (alone(6, 0), -2), (alone(0, 0), -2),
            (strip(5, 10), -22), (strip(5, 0), -28), (SET_MOVE, -17), (roll(54, 0), 0), (FITS, -33), (SPARE, -33),
            (STATE, [10, 6, 1, 7, 54, 0]))


class NothingKept(Case):
    calls = joined([begin(12), strip(5, 11), strip(7, 6), roll(50, 11), begins(0, 3), need(1, 0), need(0, 9), BEST,
                    pattern(6), gap(0, 1), BACK, drop(0), unroll(0), BACK, BACK, best_last(1), finer(3), BEST_MOVE, SET_MOVE,
                    FITS, SPARE, MOST, could(5, 5), alone(1, 0), look(1), STATE])

    def test_what_is_handed_in_is_as_it_was(self):
        handed = list(self.calls)
        answers(handed)
        self.assertEqual(handed, self.calls)

    def test_twice_the_same(self):
        first = answers(self.calls)
        second = answers(self.calls)
        self.assertEqual(first, second)
        self.assertIsNot(first, second)

    def test_an_answer_that_is_changed_changes_no_other(self):
        first = answers(self.calls)
        wanted = list(first)
        first.clear()
        self.assertEqual(answers(self.calls), wanted)

    def test_a_new_object_each_time(self):
        answers([0, 10, 1, 5, 0, 4, 50, 0, 14, 15])
        self.assertEqual(answers([10, 7, 21, 15]), [1, -61, 1, -61, 1, -61, 1, -61])

    def test_nothing_is_printed(self):
        out = io.StringIO()
        err = io.StringIO()
        with contextlib.redirect_stdout(out), contextlib.redirect_stderr(err):
            answers(self.calls)
        self.assertEqual(out.getvalue() + err.getvalue(), "")


if __name__ == "__main__":
    unittest.main()
