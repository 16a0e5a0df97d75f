"""Calls as the interface writes them, and the answers taken apart again."""

import unittest

from patternmeets.carpets import answers

GREATEST = 4294967295
BACK = [7]
BEST = [10]
BEST_MOVE = [13]
SET_MOVE = [14]
FITS = [15]
SPARE = [16]
MOST = [17]
STATE = [21]


def begin(repeat):
    return [0, repeat]


def strip(long, begins):
    return [1, long, begins]


def drop(i):
    return [2, i]


def begins(i, place):
    return [3, i, place]


def roll(long, begins):
    return [4, long, begins]


def unroll(j):
    return [5, j]


def pattern(repeat):
    return [6, repeat]


def gap(i, j):
    return [8, i, j]


def need(*order):
    return [9, len(order)] + list(order)


def best_last(i):
    return [11, i]


def finer(repeat):
    return [12, repeat]


def could(long, begins):
    return [18, long, begins]


def alone(i, j):
    return [19, i, j]


def look(i):
    return [20, i]


def joined(calls):
    return [number for call in calls for number in call]


def taken_apart(given):
    found = []
    at = 0
    while at < len(given):
        end = at + 1 + given[at]
        found.append(given[at + 1:end])
        at = end
    if at != len(given):
        raise ValueError("a count that is more than what is answered")
    return found


def run(*calls):
    """What each call is answered, a list for each."""
    return taken_apart(answers(joined(calls)))


class Case(unittest.TestCase):
    def check(self, *pairs):
        """Each pair: a call, and all that it is answered (a number for one number alone)."""
        wanted = [[told] if isinstance(told, int) else told for _, told in pairs]
        self.assertEqual(run(*[call for call, _ in pairs]), wanted)
