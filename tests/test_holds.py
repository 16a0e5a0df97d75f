"""What holds, a to e, over many drawn states, as far as the answers alone tell it."""

import itertools
import random
import unittest

from tests.helper import BEST, BEST_MOVE, FITS, MOST, SET_MOVE, SPARE, STATE, begin, best_last, could, drop, finer, look
from tests.helper import need, pattern, roll, run, strip, unroll


def drawn_strips(source, repeat, most):
    longest = source.choice([repeat, 3 * repeat, 1000])
    return [(source.randint(1, longest), source.randrange(repeat)) for _ in range(source.randint(1, most))]


def made(repeat, strips, rolls=()):
    return [begin(repeat)] + [strip(*one) for one in strips] + [roll(*one) for one in rolls]


def laid_ends(strips, order, repeat, slack):
    """Where the order ends, laid in every way that leaves up to so many repeats too much ahead of a strip."""
    ends = [0]
    for i in order:
        long, place = strips[i]
        later = []
        for end in ends:
            first = next(at for at in range(end, end + repeat) if at % repeat == place)
            later.extend(first + k * repeat + long for k in range(slack + 1))
        ends = later
    return ends


class Orders(unittest.TestCase):
    def test_a_no_order_needs_less_and_none_ends_sooner(self):
        source = random.Random(7)
        for _ in range(40):
            repeat = source.randint(1, 120)
            strips = drawn_strips(source, repeat, 4)
            orders = list(itertools.permutations(range(len(strips))))
            told = run(*made(repeat, strips), BEST, *[need(*order) for order in orders])[len(strips) + 1:]
            best, needs = told[0], [pair[0] for pair in told[1:]]
            self.assertEqual(best[0], min(needs))
            self.assertEqual(tuple(best[1:]), orders[needs.index(min(needs))])
            for order, whole in zip(orders, needs):
                self.assertEqual(min(laid_ends(strips, order, repeat, 2)), whole)

    def test_b_the_last_one_tells(self):
        source = random.Random(8)
        for _ in range(40):
            repeat = source.randint(1, 120)
            strips = drawn_strips(source, repeat, 4)
            orders = list(itertools.permutations(range(len(strips))))
            for last in range(len(strips)):
                mine = [need(*order) for order in orders if order[-1] == last]
                told = run(*made(repeat, strips), best_last(last), look(last), *mine)[len(strips) + 1:]
                least, shown, needs = told[0][0], told[1], [pair[0] for pair in told[2:]]
                self.assertEqual({whole % repeat for whole in needs}, {shown[2]})
                self.assertEqual(least, min(needs))

    def test_a_and_b_the_best_order_is_the_best_of_those_with_each_strip_last(self):
        source = random.Random(9)
        for _ in range(60):
            repeat = source.randint(1, 120)
            strips = drawn_strips(source, repeat, 6)
            count = len(strips)
            told = run(*made(repeat, strips), BEST, *[best_last(i) for i in range(count)])[count + 1:]
            lasts = [one[0] for one in told[1:]]
            self.assertEqual(told[0][0], min(lasts))
            self.assertEqual(lasts[told[0][-1]], min(lasts))


class Patterns(unittest.TestCase):
    def test_c_a_pattern_that_repeats_sooner_never_needs_more(self):
        source = random.Random(10)
        for _ in range(40):
            repeat = source.choice([12, 24, 60, 64, 120, source.randint(1, 120)])
            strips = drawn_strips(source, repeat, 6)
            into = [r for r in range(1, repeat + 1) if repeat % r == 0]
            told = run(*made(repeat, strips), BEST, *[finer(r) for r in into])[len(strips) + 1:]
            needs = {r: one[0] for r, one in zip(into, told[1:])}
            for less, more in itertools.combinations(into, 2):
                if more % less == 0:
                    self.assertLessEqual(needs[less], needs[more])
            self.assertEqual(needs[repeat], told[0][0])
            self.assertEqual(needs[1], sum(long for long, _ in strips))
            for r in into:
                self.assertEqual(run(*made(repeat, strips), pattern(r), BEST)[-1][0], needs[r])

    def test_d_where_best_to_begin(self):
        source = random.Random(11)
        for _ in range(40):
            repeat = source.randint(1, 120)
            strips = drawn_strips(source, repeat, 6)
            by, least = run(*made(repeat, strips), BEST_MOVE)[-1]
            needs = []
            for k in range(repeat):
                moved = [(long, (place + k) % repeat) for long, place in strips]
                needs.append(run(*made(repeat, moved), BEST)[-1][0])
            self.assertEqual((by, least), (needs.index(min(needs)), min(needs)))
            self.check_set_move(repeat, strips, by, least)

    def check_set_move(self, repeat, strips, by, least):
        looks = [look(i) for i in range(len(strips))]
        told = run(*made(repeat, strips), SET_MOVE, BEST, BEST_MOVE, *looks)[len(strips) + 1:]
        answered, best, again, shown = told[0], told[1], told[2], told[3:]
        self.assertEqual(answered, [least if by else -17])
        self.assertEqual(best[0], least)
        self.assertEqual(again, [0, least])
        self.assertEqual(shown[best[1]][1], 0)
        self.assertEqual([one[:2] for one in shown], [[long, (place + by) % repeat] for long, place in strips])


class Rolls(unittest.TestCase):
    def states(self):
        source = random.Random(12)
        for _ in range(60):
            repeat = source.randint(1, 120)
            strips = drawn_strips(source, repeat, 6)
            count = source.randint(1, 3)
            whole = sum(long for long, _ in strips) // count
            rolls = [(max(1, whole + source.randint(-repeat // 2, 2 * repeat)), source.randrange(repeat))
                     for _ in range(count)]
            yield repeat, strips, rolls

    def fits_as_given(self, repeat, strips, rolls, way):
        """Whether each roll by itself holds just the strips that the way gives to it."""
        for j, one in enumerate(rolls):
            given = [piece for piece, to in zip(strips, way) if to == j]
            if run(*made(repeat, given, [one]), FITS)[-1][0] < 0:
                return False
        return True

    def test_e_they_fit_just_if_some_way_does(self):
        seen = []
        for repeat, strips, rolls in self.states():
            told = run(*made(repeat, strips, rolls), FITS)[-1]
            ways = itertools.product(range(len(rolls)), repeat=len(strips))
            first = next((list(way) for way in ways if self.fits_as_given(repeat, strips, rolls, way)), None)
            self.assertEqual(told, [-33] if first is None else [len(strips)] + first)
            seen.append(first is None)
        self.assertGreater(seen.count(True), 10)
        self.assertGreater(seen.count(False), 10)

    def test_e_a_strip_fewer_never_needs_more(self):
        for repeat, strips, rolls in self.states():
            fit, whole = run(*made(repeat, strips, rolls), FITS, BEST)[-2:]
            for i in range(len(strips)):
                fewer_fit, fewer_whole = run(*made(repeat, strips, rolls), drop(i), FITS, BEST)[-2:]
                self.assertLessEqual(fewer_whole[0], whole[0])
                if fit[0] >= 0:
                    self.assertEqual(fewer_fit[0], len(strips) - 1)

    def test_e_most_could_and_spare_tell_the_same_as_fits(self):
        for repeat, strips, rolls in self.states():
            fit, spare, most = run(*made(repeat, strips, rolls), FITS, SPARE, MOST)[-3:]
            all_fit = fit[0] >= 0
            self.assertEqual(most[0] == len(strips), all_fit)
            self.assertEqual(most[0], bin(most[1]).count("1"))
            self.assertEqual(run(*made(repeat, strips[:-1], rolls), could(*strips[-1]))[-1], [1 if all_fit else 0])
            chosen = [one for i, one in enumerate(strips) if most[1] & 2 ** i]
            self.assertEqual(run(*made(repeat, chosen, rolls), FITS)[-1][0], len(chosen))
            if all_fit:
                self.assertEqual(spare[0], len(rolls))
                self.assertGreaterEqual(min(spare[1:]), 0)
                self.check_just_long_enough(repeat, strips, rolls, fit, spare)
            else:
                self.assertEqual(spare, [-33])

    def check_just_long_enough(self, repeat, strips, rolls, fit, spare):
        """Rolls without what is left of them still hold the strips given so; a centimetre less is too little."""
        for j, (long, place) in enumerate(rolls):
            given = [one for one, to in zip(strips, fit[1:]) if to == j]
            if given:
                just = long - spare[j + 1]
                self.assertEqual(run(*made(repeat, given, [(just, place)]), FITS)[-1][0], len(given))
                shorter = [(just - 1, place)] if just > 1 else []
                self.assertLess(run(*made(repeat, given, shorter), FITS)[-1][0], 0)
            else:
                self.assertEqual(spare[j + 1], long)

    def test_an_unrolled_roll_leaves_what_was_told_of_the_others(self):
        for repeat, strips, rolls in self.states():
            told = run(*made(repeat, strips, rolls), unroll(0), STATE, FITS)[-2:]
            again = run(*made(repeat, strips, rolls[1:]), STATE, FITS)[-2:]
            self.assertEqual(told[0][4:], again[0][4:])
            self.assertEqual(told[1], again[1])


if __name__ == "__main__":
    unittest.main()
