"""The calls that only ask, and change nothing.

Each answers a list: the number, then what else is answered, or the refusal alone.
"""

from patternmeets.changes import strip_refusal
from patternmeets.orders import best_order, best_shift, least_need, least_with_last, order_need
from patternmeets.places import gap_ahead, goes_into, places_left
from patternmeets.refusals import NO_FIT, NO_ROLLS, NO_SUCH, NOT_AS_TOLD
from patternmeets.ways import first_way, largest_set, loads_of_way, spares_of_rolls
from patternmeets.works import Piece


def gap(carpet, i, j):
    count = len(carpet.strips)
    if i >= count or j >= count:
        return [NO_SUCH]
    if i == j:
        return [NOT_AS_TOLD]
    first = carpet.strips[i]
    return [gap_ahead(first.begins + first.long, carpet.strips[j], carpet.repeat)]


# A number in the row that is no strip is refused like any other row that isn't all strips, each once.
def need(carpet, order):
    if sorted(order) != list(range(len(carpet.strips))):
        return [NOT_AS_TOLD]
    whole = order_need(carpet.strips, order, carpet.repeat)
    return [whole, whole - sum([strip.long for strip in carpet.strips])]


def best(carpet):
    order = best_order(carpet.strips, carpet.repeat)
    return [order_need(carpet.strips, order, carpet.repeat)] + order


def best_last(carpet, i):
    count = len(carpet.strips)
    if i >= count:
        return [NO_SUCH]
    others = [k for k in range(count) if k != i]
    return [least_with_last(carpet.strips, others, i, carpet.repeat)]


def finer(carpet, r):
    if not goes_into(r, carpet.repeat):
        return [NOT_AS_TOLD]
    return [least_need(places_left(carpet.strips, r), r)]


def best_move(carpet):
    return list(best_shift(carpet.strips, carpet.repeat))


def fits(carpet):
    if len(carpet.rolls) == 0:
        return [NO_ROLLS]
    count = len(carpet.strips)
    way = first_way(spares_of_rolls(carpet.strips, carpet.rolls, carpet.repeat), list(range(count)))
    if way is None:
        return [NO_FIT]
    return [count] + way


def spare(carpet):
    if len(carpet.rolls) == 0:
        return [NO_ROLLS]
    spares = spares_of_rolls(carpet.strips, carpet.rolls, carpet.repeat)
    way = first_way(spares, list(range(len(carpet.strips))))
    if way is None:
        return [NO_FIT]
    loads = loads_of_way(way, len(carpet.rolls))
    return [len(loads)] + [spares[j][load] for j, load in enumerate(loads)]


def most(carpet):
    if len(carpet.rolls) == 0:
        return [NO_ROLLS]
    spares = spares_of_rolls(carpet.strips, carpet.rolls, carpet.repeat)
    return list(largest_set(spares, len(carpet.strips)))


def could(carpet, long, begins):
    refusal = strip_refusal(carpet, long, begins)
    if refusal is not None:
        return [refusal]
    strips = carpet.strips + [Piece(long, begins)]
    way = first_way(spares_of_rolls(strips, carpet.rolls, carpet.repeat), list(range(len(strips))))
    return [0 if way is None else 1]


def alone(carpet, i, j):
    if i >= len(carpet.strips) or j >= len(carpet.rolls):
        return [NO_SUCH]
    strip = carpet.strips[i]
    roll = carpet.rolls[j]
    whole = gap_ahead(roll.begins, strip, carpet.repeat) + strip.long
    return [1 if whole <= roll.long else 0, whole]


def look(carpet, i):
    if i >= len(carpet.strips):
        return [NO_SUCH]
    strip = carpet.strips[i]
    return [strip.long, strip.begins, (strip.begins + strip.long) % carpet.repeat]


def state(carpet):
    told = [carpet.repeat, len(carpet.strips), len(carpet.rolls), len(carpet.past)]
    for roll in carpet.rolls:
        told.extend([roll.long, roll.begins])
    return told
