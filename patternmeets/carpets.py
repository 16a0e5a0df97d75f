"""Calls on one carpet, written as one list of whole numbers, and what they are answered."""

from patternmeets.changes import add_roll, add_strip, back, begin, drop_roll, drop_strip, set_begins, set_move
from patternmeets.changes import set_pattern
from patternmeets.questions import alone, best, best_last, best_move, could, finer, fits, gap, look, most, need, spare
from patternmeets.questions import state
from patternmeets.refusals import NOT_BEGUN
from patternmeets.works import Carpet

BEGIN = 0
STRIP = 1
DROP = 2
BEGINS = 3
ROLL = 4
UNROLL = 5
PATTERN = 6
BACK = 7
GAP = 8
NEED = 9
BEST = 10
BEST_LAST = 11
FINER = 12
BEST_MOVE = 13
SET_MOVE = 14
FITS = 15
SPARE = 16
MOST = 17
COULD = 18
ALONE = 19
LOOK = 20

# How many whole numbers each call is handed, by the call's number; a row is not counted.
HANDED = (1, 2, 1, 2, 2, 1, 1, 0, 2, 0, 0, 1, 1, 0, 0, 0, 0, 0, 2, 2, 1, 0)


def end_of_call(calls, at):
    call = calls[at]
    end = at + 1 + HANDED[call]
    if call == NEED:
        return end + 1 + calls[end]
    return end


def answer_change(carpet, call, handed):
    if call == STRIP:
        return add_strip(carpet, handed[0], handed[1])
    if call == DROP:
        return drop_strip(carpet, handed[0])
    if call == BEGINS:
        return set_begins(carpet, handed[0], handed[1])
    if call == ROLL:
        return add_roll(carpet, handed[0], handed[1])
    if call == UNROLL:
        return drop_roll(carpet, handed[0])
    if call == PATTERN:
        return set_pattern(carpet, handed[0])
    if call == SET_MOVE:
        return set_move(carpet)
    return back(carpet)


def answer_of_orders(carpet, call, handed):
    if call == GAP:
        return gap(carpet, handed[0], handed[1])
    if call == NEED:
        # The row stands behind how many numbers it has.
        return need(carpet, handed[1:])
    if call == BEST:
        return best(carpet)
    if call == BEST_LAST:
        return best_last(carpet, handed[0])
    if call == FINER:
        return finer(carpet, handed[0])
    return best_move(carpet)


def answer_of_rolls(carpet, call, handed):
    if call == FITS:
        return fits(carpet)
    if call == SPARE:
        return spare(carpet)
    if call == MOST:
        return most(carpet)
    if call == COULD:
        return could(carpet, handed[0], handed[1])
    return alone(carpet, handed[0], handed[1])


def answer_call(carpet, call, handed):
    if call == BEGIN:
        return begin(carpet, handed[0])
    if carpet.repeat == 0:
        return [NOT_BEGUN]
    if call <= BACK or call == SET_MOVE:
        return answer_change(carpet, call, handed)
    if call <= BEST_MOVE:
        return answer_of_orders(carpet, call, handed)
    if call <= ALONE:
        return answer_of_rolls(carpet, call, handed)
    if call == LOOK:
        return look(carpet, handed[0])
    return state(carpet)


def answers(calls):
    carpet = Carpet()
    given = []
    at = 0
    while at < len(calls):
        end = end_of_call(calls, at)
        answer = answer_call(carpet, calls[at], calls[at + 1:end])
        given.append(len(answer))
        given.extend(answer)
        at = end
    return given
