"""Calls on one carpet, written as one list of whole numbers, and what they are answered."""

from patternmeets.changes import add_roll, add_strip, back, begin, drop_roll, drop_strip, set_begins, set_pattern
from patternmeets.questions import best, gap, need
from patternmeets.refusals import NOT_BEGUN
from patternmeets.works import Carpet

BEGIN = 0
STRIP = 1
DROP = 2
BEGINS = 3
ROLL = 4
UNROLL = 5
PATTERN = 6
BACK = 7
GAP = 8
NEED = 9
BEST = 10

# How many whole numbers each call is handed, by the call's number; a row is not counted.
HANDED = (1, 2, 1, 2, 2, 1, 1, 0, 2, 0, 0)


def end_of_call(calls, at):
    call = calls[at]
    end = at + 1 + HANDED[call]
    if call == NEED:
        return end + 1 + calls[end]
    return end


def answer_change(carpet, call, handed):
    if call == STRIP:
        return add_strip(carpet, handed[0], handed[1])
    if call == DROP:
        return drop_strip(carpet, handed[0])
    if call == BEGINS:
        return set_begins(carpet, handed[0], handed[1])
    if call == ROLL:
        return add_roll(carpet, handed[0], handed[1])
    if call == UNROLL:
        return drop_roll(carpet, handed[0])
    if call == PATTERN:
        return set_pattern(carpet, handed[0])
    return back(carpet)


def answer_question(carpet, call, handed):
    if call == GAP:
        return gap(carpet, handed[0], handed[1])
    if call == BEST:
        return best(carpet)
    # The row stands behind how many numbers it has.
    return need(carpet, handed[1:])


def answer_call(carpet, call, handed):
    if call == BEGIN:
        return begin(carpet, handed[0])
    if carpet.repeat == 0:
        return [NOT_BEGUN]
    if call <= BACK:
        return answer_change(carpet, call, handed)
    return answer_question(carpet, call, handed)


def answers(calls):
    carpet = Carpet()
    given = []
    at = 0
    while at < len(calls):
        end = end_of_call(calls, at)
        answer = answer_call(carpet, calls[at], calls[at + 1:end])
        given.append(len(answer))
        given.extend(answer)
        at = end
    return given
