"""Many lists of calls, answered once more by walking each roll centimetre by centimetre.

Also what holds (a): no order needs less than the best one, and none can be laid so that it ends sooner.
"""

import itertools
import random
import unittest

from patternmeets.carpets import answers
from tests.helper import BACK, BEST, GREATEST, begin, begins, drop, gap, joined, need, pattern, roll, strip, taken_apart
from tests.helper import unroll


def walked_need(strips, order, repeat):
    at = 0
    for i in order:
        long, place = strips[i]
        while at % repeat != place:
            at += 1
        at += long
    return at


class Model:
    def __init__(self):
        self.states = []

    def now(self):
        return self.states[-1]

    def later(self, repeat, strips, rolls):
        self.states = (self.states + [(repeat, tuple(strips), tuple(rolls))])[-11:]

    def answer(self, call):
        name = ("begin", "strip", "drop", "begins", "roll", "unroll", "pattern", "back", "gap", "need", "best")[call[0]]
        if name != "begin" and not self.states:
            return [-61]
        return getattr(self, name)(*call[1:])

    def begin(self, repeat):
        if repeat not in range(1, 121):
            return [-22]
        self.states = [(repeat, (), ())]
        return [0]

    def strip(self, long, place):
        repeat, strips, rolls = self.now()
        if long not in range(1, 1001) or place not in range(repeat):
            return [-22]
        if len(strips) == 6:
            return [-28]
        self.later(repeat, strips + ((long, place),), rolls)
        return [len(strips)]

    def drop(self, i):
        repeat, strips, rolls = self.now()
        if i not in range(len(strips)):
            return [-2]
        self.later(repeat, [one for k, one in enumerate(strips) if k != i], rolls)
        return [len(strips) - 1]

    def begins(self, i, place):
        repeat, strips, rolls = self.now()
        if i not in range(len(strips)):
            return [-2]
        if place not in range(repeat):
            return [-22]
        self.later(repeat, [(one[0], place if k == i else one[1]) for k, one in enumerate(strips)], rolls)
        return [strips[i][1]]

    def roll(self, long, place):
        repeat, strips, rolls = self.now()
        if long not in range(1, 10001) or place not in range(repeat):
            return [-22]
        if len(rolls) == 3:
            return [-28]
        self.later(repeat, strips, rolls + ((long, place),))
        return [len(rolls)]

    def unroll(self, j):
        repeat, strips, rolls = self.now()
        if j not in range(len(rolls)):
            return [-2]
        self.later(repeat, strips, [one for k, one in enumerate(rolls) if k != j])
        return [len(rolls) - 1]

    def pattern(self, r):
        repeat, strips, rolls = self.now()
        if r not in [k for k in range(1, repeat + 1) if repeat % k == 0]:
            return [-22]
        self.later(r, [(long, place % r) for long, place in strips], [(long, place % r) for long, place in rolls])
        return [repeat]

    def back(self):
        if len(self.states) == 1:
            return [-2]
        self.states = self.states[:-1]
        return [len(self.states) - 1]

    def gap(self, i, j):
        repeat, strips, _ = self.now()
        if i not in range(len(strips)) or j not in range(len(strips)):
            return [-2]
        if i == j:
            return [-22]
        alone = walked_need(strips, [i], repeat)
        return [walked_need(strips, [i, j], repeat) - alone - strips[j][0]]

    def need(self, count, *order):
        repeat, strips, _ = self.now()
        if order not in list(itertools.permutations(range(len(strips)))):
            return [-22]
        whole = walked_need(strips, order, repeat)
        return [whole, whole - sum(long for long, _ in strips)]

    def best(self):
        repeat, strips, _ = self.now()
        orders = itertools.permutations(range(len(strips)))
        return list(min((walked_need(strips, order, repeat),) + order for order in orders))


def some_calls(source):
    repeat = source.choice([1, 2, 3, 6, 10, 12, 30, 60, 97, 120])
    few = source.choice([1, 10, 40])

    def place():
        return source.choice([source.randrange(repeat)] * 8 + [repeat, GREATEST])

    def long():
        return source.choice([source.randint(1, few), source.randint(1, 1000), repeat] * 4 + [0, 1000, 1001, GREATEST])

    def number():
        return source.choice([0, 0, 1, 1, 2, 3, 4, 5, 6, GREATEST])

    def row():
        order = list(range(source.randint(0, 6)))
        source.shuffle(order)
        return order

    makers = [lambda: strip(long(), place())] * 5 + [
        lambda: drop(number()), lambda: begins(number(), place()), lambda: roll(long() * 10, place()),
        lambda: roll(long(), place()), lambda: unroll(number()), lambda: BACK, lambda: gap(number(), number()),
        lambda: pattern(source.choice([0, 1, 2, 3, 5, 6, 10, repeat, repeat])), lambda: need(*row()),
        lambda: need(*[number() for _ in range(source.randint(0, 8))]), lambda: BEST]
    calls = [begin(repeat)] if source.random() < 0.95 else [source.choice(makers)(), begin(0), BEST, begin(repeat)]
    while len(calls) < 40:
        calls.append(source.choice(makers)())
    if source.random() < 0.1:
        calls.insert(source.randrange(len(calls)), begin(source.choice([0, 121, repeat])))
    return calls


class AgainstTheModel(unittest.TestCase):
    def test_many_lists_of_calls(self):
        for seed in range(500):
            calls = some_calls(random.Random(seed))
            model = Model()
            wanted = [model.answer(call) for call in calls]
            self.assertEqual(taken_apart(answers(joined(calls))), wanted, calls)


def laid_ends(strips, order, repeat, slack):
    """Where the order ends, laid in every way that leaves up to so many repeats too much ahead of a strip."""
    ends = [0]
    for i in order:
        long, place = strips[i]
        later = []
        for end in ends:
            first = next(at for at in range(end, end + repeat) if at % repeat == place)
            later.extend(first + k * repeat + long for k in range(slack + 1))
        ends = later
    return ends


class WhatHolds(unittest.TestCase):
    def test_no_order_needs_less_and_none_ends_sooner(self):
        source = random.Random(7)
        for _ in range(40):
            repeat = source.randint(1, 120)
            count = source.randint(1, 4)
            strips = [(source.randint(1, 1000), source.randrange(repeat)) for _ in range(count)]
            orders = list(itertools.permutations(range(count)))
            calls = [begin(repeat)] + [strip(*one) for one in strips] + [BEST] + [need(*order) for order in orders]
            told = taken_apart(answers(joined(calls)))[count + 1:]
            best, needs = told[0], [pair[0] for pair in told[1:]]
            self.assertEqual(best[0], min(needs))
            self.assertEqual(tuple(best[1:]), orders[needs.index(min(needs))])
            for order, whole in zip(orders, needs):
                self.assertEqual(min(laid_ends(strips, order, repeat, 2)), whole)


if __name__ == "__main__":
    unittest.main()
