"""Many lists of calls, answered once more by walking each roll centimetre by centimetre."""

import functools
import itertools
import random
import unittest

from patternmeets.carpets import answers
from tests.helper import BACK, BEST, BEST_MOVE, FITS, GREATEST, MOST, SET_MOVE, SPARE, STATE, alone, begin, begins
from tests.helper import best_last, could, drop, finer, gap, joined, look, need, pattern, roll, strip, taken_apart, unroll

NAMES = ("begin", "strip", "drop", "begins", "roll", "unroll", "pattern", "back", "gap", "need", "best", "best_last",
         "finer", "best_move", "set_move", "fits", "spare", "most", "could", "alone", "look", "state")


def walked_need(strips, order, repeat, start=0):
    """What the order needs of a roll that begins at place start."""
    at = 0
    for i in order:
        long, place = strips[i]
        while (start + at) % repeat != place:
            at += 1
        at += long
    return at


@functools.lru_cache(maxsize=None)
def least_walked(strips, repeat, start):
    """What the strips need at least of a roll that begins at place start: every order is walked, each rest once."""
    needs = [0]
    if strips:
        needs = []
        for k, one in enumerate(strips):
            first = walked_need((one,), [0], repeat, start)
            needs.append(first + least_walked(strips[:k] + strips[k + 1:], repeat, (start + first) % repeat))
    return min(needs)


def moved(strips, by, repeat):
    return tuple((long, (place + by) % repeat) for long, place in strips)


def left_of_rolls(strips, rolls, repeat, way):
    """What is left of each roll behind the strips that the way gives to it."""
    given = [tuple(one for one, to in zip(strips, way) if to == j) for j in range(len(rolls))]
    return [long - least_walked(given[j], repeat, place) for j, (long, place) in enumerate(rolls)]


def ways_that_fit(strips, rolls, repeat):
    """Each way by which the strips fit, the first way first."""
    for way in itertools.product(range(len(rolls)), repeat=len(strips)):
        if min(left_of_rolls(strips, rolls, repeat, way), default=0) >= 0:
            yield list(way)


def first_that_fits(strips, rolls, repeat):
    return next(ways_that_fit(strips, rolls, repeat), None)


class Model:
    def __init__(self):
        self.states = []

    def now(self):
        return self.states[-1]

    def later(self, repeat, strips, rolls):
        self.states = (self.states + [(repeat, tuple(strips), tuple(rolls))])[-11:]

    def answer(self, call):
        name = NAMES[call[0]]
        if name != "begin" and not self.states:
            return [-61]
        return getattr(self, name)(*call[1:])

    def begin(self, repeat):
        if repeat not in range(1, 121):
            return [-22]
        self.states = [(repeat, (), ())]
        return [0]

    def strip(self, long, place):
        repeat, strips, rolls = self.now()
        if long not in range(1, 1001) or place not in range(repeat):
            return [-22]
        if len(strips) == 6:
            return [-28]
        self.later(repeat, strips + ((long, place),), rolls)
        return [len(strips)]

    def drop(self, i):
        repeat, strips, rolls = self.now()
        if i not in range(len(strips)):
            return [-2]
        self.later(repeat, [one for k, one in enumerate(strips) if k != i], rolls)
        return [len(strips) - 1]

    def begins(self, i, place):
        repeat, strips, rolls = self.now()
        if i not in range(len(strips)):
            return [-2]
        if place not in range(repeat):
            return [-22]
        self.later(repeat, [(one[0], place if k == i else one[1]) for k, one in enumerate(strips)], rolls)
        return [strips[i][1]]

    def roll(self, long, place):
        repeat, strips, rolls = self.now()
        if long not in range(1, 10001) or place not in range(repeat):
            return [-22]
        if len(rolls) == 3:
            return [-28]
        self.later(repeat, strips, rolls + ((long, place),))
        return [len(rolls)]

    def unroll(self, j):
        repeat, strips, rolls = self.now()
        if j not in range(len(rolls)):
            return [-2]
        self.later(repeat, strips, [one for k, one in enumerate(rolls) if k != j])
        return [len(rolls) - 1]

    def pattern(self, r):
        repeat, strips, rolls = self.now()
        if r not in [k for k in range(1, repeat + 1) if repeat % k == 0]:
            return [-22]
        self.later(r, [(long, place % r) for long, place in strips], [(long, place % r) for long, place in rolls])
        return [repeat]

    def back(self):
        if len(self.states) == 1:
            return [-2]
        self.states = self.states[:-1]
        return [len(self.states) - 1]

    def gap(self, i, j):
        repeat, strips, _ = self.now()
        if i not in range(len(strips)) or j not in range(len(strips)):
            return [-2]
        if i == j:
            return [-22]
        alone = walked_need(strips, [i], repeat)
        return [walked_need(strips, [i, j], repeat) - alone - strips[j][0]]

    def need(self, count, *order):
        repeat, strips, _ = self.now()
        if order not in list(itertools.permutations(range(len(strips)))):
            return [-22]
        whole = walked_need(strips, order, repeat)
        return [whole, whole - sum(long for long, _ in strips)]

    def best(self):
        repeat, strips, _ = self.now()
        orders = itertools.permutations(range(len(strips)))
        return list(min((walked_need(strips, order, repeat),) + order for order in orders))

    def best_last(self, i):
        repeat, strips, _ = self.now()
        if i not in range(len(strips)):
            return [-2]
        orders = itertools.permutations(range(len(strips)))
        return [min(walked_need(strips, order, repeat) for order in orders if order[-1] == i)]

    def finer(self, r):
        repeat, strips, _ = self.now()
        if r not in [k for k in range(1, repeat + 1) if repeat % k == 0]:
            return [-22]
        return [least_walked(moved(strips, 0, r), r, 0)]

    def best_move(self):
        repeat, strips, _ = self.now()
        needs = [least_walked(moved(strips, by, repeat), repeat, 0) for by in range(repeat)]
        return [needs.index(min(needs)), min(needs)]

    def set_move(self):
        repeat, strips, rolls = self.now()
        by, least = self.best_move()
        if by == 0:
            return [-17]
        self.later(repeat, moved(strips, by, repeat), rolls)
        return [least]

    def fits(self):
        repeat, strips, rolls = self.now()
        if not rolls:
            return [-6]
        way = first_that_fits(strips, rolls, repeat)
        return [-33] if way is None else [len(strips)] + way

    def spare(self):
        repeat, strips, rolls = self.now()
        answered = self.fits()
        if answered[0] < 0:
            return answered
        return [len(rolls)] + left_of_rolls(strips, rolls, repeat, answered[1:])

    def most(self):
        repeat, strips, rolls = self.now()
        if not rolls:
            return [-6]
        found = []
        for number in range(2 ** len(strips)):
            chosen = tuple(one for i, one in enumerate(strips) if number & 2 ** i)
            if first_that_fits(chosen, rolls, repeat) is not None:
                found.append((-len(chosen), number))
        return [-min(found)[0], min(found)[1]]

    def could(self, long, place):
        repeat, strips, rolls = self.now()
        if long not in range(1, 1001) or place not in range(repeat):
            return [-22]
        if len(strips) == 6:
            return [-28]
        way = first_that_fits(strips + ((long, place),), rolls, repeat)
        return [0 if way is None else 1]

    def alone(self, i, j):
        repeat, strips, rolls = self.now()
        if i not in range(len(strips)) or j not in range(len(rolls)):
            return [-2]
        long, place = rolls[j]
        whole = walked_need(strips, [i], repeat, place)
        return [1 if whole <= long else 0, whole]

    def look(self, i):
        repeat, strips, _ = self.now()
        if i not in range(len(strips)):
            return [-2]
        long, place = strips[i]
        return [long, place, (place + long) % repeat]

    def state(self):
        repeat, strips, rolls = self.now()
        told = [repeat, len(strips), len(rolls), len(self.states) - 1]
        return told + [number for one in rolls for number in one]


def some_calls(source):
    repeat = source.choice([1, 2, 3, 6, 10, 12, 30, 60, 97, 120])
    few = source.choice([1, 10, 40])

    def place():
        return source.choice([source.randrange(repeat)] * 8 + [repeat, GREATEST])

    def long():
        return source.choice([source.randint(1, few), source.randint(1, 1000), repeat] * 4 + [0, 1000, 1001, GREATEST])

    def number():
        return source.choice([0, 0, 1, 1, 2, 3, 4, 5, 6, GREATEST])

    def row():
        order = list(range(source.randint(0, 6)))
        source.shuffle(order)
        return order

    makers = [lambda: strip(long(), place())] * 5 + [
        lambda: drop(number()), lambda: begins(number(), place()), lambda: roll(long() * 10, place()),
        lambda: roll(long(), place()), lambda: unroll(number()), lambda: BACK, lambda: gap(number(), number()),
        lambda: pattern(source.choice([0, 1, 2, 3, 5, 6, 10, repeat, repeat])), lambda: need(*row()),
        lambda: need(*[number() for _ in range(source.randint(0, 8))]), lambda: BEST, lambda: best_last(number()),
        lambda: finer(source.choice([0, 1, 2, 3, 5, 6, 10, repeat, repeat, GREATEST])), lambda: BEST_MOVE,
        lambda: SET_MOVE, lambda: FITS, lambda: FITS, lambda: SPARE, lambda: MOST, lambda: could(long(), place()),
        lambda: alone(number(), number()), lambda: look(number()), lambda: STATE]
    calls = [begin(repeat)] if source.random() < 0.95 else [source.choice(makers)(), begin(0), BEST, begin(repeat)]
    while len(calls) < 40:
        calls.append(source.choice(makers)())
    if source.random() < 0.1:
        calls.insert(source.randrange(len(calls)), begin(source.choice([0, 121, repeat])))
    return calls


def full_state(source):
    """Calls that make a state whose rolls are together about as long as its strips need."""
    repeat = source.choice([1, 2, 6, 10, 60, 120, source.randint(1, 120)])
    longest = source.choice([repeat, 2 * repeat, 1000])
    count = source.choice([3, 4, 5, 6, 6])
    strips = [(source.randint(1, longest), source.randrange(repeat)) for _ in range(count)]
    rolls = source.choice([1, 2, 3, 3])
    whole = sum(long for long, _ in strips) // rolls
    calls = [begin(repeat)] + [strip(*one) for one in strips]
    for _ in range(rolls):
        calls.append(roll(max(1, whole + source.randint(-repeat // 2, 2 * repeat)), source.randrange(repeat)))
    return calls


class AgainstTheModel(unittest.TestCase):
    def compare(self, calls):
        model = Model()
        wanted = [model.answer(call) for call in calls]
        self.assertEqual(taken_apart(answers(joined(calls))), wanted, calls)
        return wanted

    def test_many_lists_of_calls(self):
        for seed in range(500):
            self.compare(some_calls(random.Random(seed)))

    def test_a_hundred_calls_with_all_that_there_may_be(self):
        for seed in range(3):
            source = random.Random(seed)
            calls = [begin(120)] + [strip(source.randint(1, 1000), source.randrange(120)) for _ in range(6)]
            calls += [roll(source.randint(800, 2000), source.randrange(120)) for _ in range(3)]
            asked = [FITS, SPARE, MOST, BEST, BEST_MOVE, SET_MOVE, STATE, finer(60), best_last(5), alone(5, 2), look(5)]
            while len(calls) < 100:
                i = source.randrange(6)
                calls.append(source.choice(asked * 2 + [BACK, begins(i, source.randrange(120)), could(5, 5)]))
            self.compare(calls)

    def test_many_full_states(self):
        firsts = []
        for seed in range(150):
            source = random.Random(seed)
            asked = [FITS, SPARE, MOST, BEST, BEST_MOVE] + [best_last(i) for i in range(6)] + [look(i) for i in range(6)]
            asked += [alone(i, j) for i in range(6) for j in range(3)]
            calls = full_state(source) + asked + [drop(0), could(source.randint(1, 200), 0), FITS, SET_MOVE, STATE, SPARE]
            told = self.compare(calls)
            firsts.append(told[calls.index(FITS)][0])
        # Else the states drawn would be too easy, or too hard, to tell anything.
        self.assertGreater(firsts.count(-33), 20)
        self.assertGreater(len(firsts) - firsts.count(-33), 20)


if __name__ == "__main__":
    unittest.main()
