"""The calls that change a carpet, and back, which takes a change back.

Each answers a list: the number, or the refusal, alone.
"""

from patternmeets.orders import best_shift
from patternmeets.places import goes_into, moved_on, places_left
from patternmeets.refusals import NO_MOVE, NO_ROOM, NO_SUCH, NOT_AS_TOLD
from patternmeets.works import Piece

LONGEST_REPEAT = 120
LONGEST_STRIP = 1000
LONGEST_ROLL = 10000
MOST_STRIPS = 6
MOST_ROLLS = 3


def begin(carpet, repeat):
    if repeat < 1 or repeat > LONGEST_REPEAT:
        return [NOT_AS_TOLD]
    carpet.begin_anew(repeat)
    return [0]


def is_as_told(carpet, long, begins, longest):
    return 1 <= long and long <= longest and begins < carpet.repeat


# Why there can't be one more such strip; None if there can.
def strip_refusal(carpet, long, begins):
    if not is_as_told(carpet, long, begins, LONGEST_STRIP):
        return NOT_AS_TOLD
    if len(carpet.strips) == MOST_STRIPS:
        return NO_ROOM
    return None


def add_strip(carpet, long, begins):
    refusal = strip_refusal(carpet, long, begins)
    if refusal is not None:
        return [refusal]
    number = len(carpet.strips)
    carpet.change(carpet.repeat, carpet.strips + [Piece(long, begins)], carpet.rolls)
    return [number]


def add_roll(carpet, long, begins):
    if not is_as_told(carpet, long, begins, LONGEST_ROLL):
        return [NOT_AS_TOLD]
    number = len(carpet.rolls)
    if number == MOST_ROLLS:
        return [NO_ROOM]
    carpet.change(carpet.repeat, carpet.strips, carpet.rolls + [Piece(long, begins)])
    return [number]


def drop_strip(carpet, i):
    if i >= len(carpet.strips):
        return [NO_SUCH]
    strips = carpet.strips[:i] + carpet.strips[i + 1:]
    carpet.change(carpet.repeat, strips, carpet.rolls)
    return [len(strips)]


def drop_roll(carpet, j):
    if j >= len(carpet.rolls):
        return [NO_SUCH]
    rolls = carpet.rolls[:j] + carpet.rolls[j + 1:]
    carpet.change(carpet.repeat, carpet.strips, rolls)
    return [len(rolls)]


def set_begins(carpet, i, place):
    if i >= len(carpet.strips):
        return [NO_SUCH]
    if place >= carpet.repeat:
        return [NOT_AS_TOLD]
    old = carpet.strips[i]
    strips = carpet.strips[:i] + [Piece(old.long, place)] + carpet.strips[i + 1:]
    carpet.change(carpet.repeat, strips, carpet.rolls)
    return [old.begins]


def set_pattern(carpet, repeat):
    old = carpet.repeat
    if not goes_into(repeat, old):
        return [NOT_AS_TOLD]
    carpet.change(repeat, places_left(carpet.strips, repeat), places_left(carpet.rolls, repeat))
    return [old]


def set_move(carpet):
    found = best_shift(carpet.strips, carpet.repeat)
    if found[0] == 0:
        return [NO_MOVE]
    carpet.change(carpet.repeat, moved_on(carpet.strips, found[0], carpet.repeat), carpet.rolls)
    return [found[1]]


def back(carpet):
    if len(carpet.past) == 0:
        return [NO_SUCH]
    carpet.take_back()
    return [len(carpet.past)]
