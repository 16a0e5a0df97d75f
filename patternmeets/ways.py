"""Which strip comes from which roll.

A set of strips is written as a number: bit i for strip i.
"""

from patternmeets.orders import firsts_of_sets, least_from


def spares_of_roll(roll, strips, found, repeat):
    return [roll.long - least_from(roll.begins, strips, firsts, repeat) for firsts in found]


# For each roll, and each set of strips: how much is left of the roll behind them, below 0 where they don't fit.
def spares_of_rolls(strips, rolls, repeat):
    found = firsts_of_sets(strips, repeat)
    return [spares_of_roll(roll, strips, found, repeat) for roll in rolls]


# loads: for each roll the set of strips that it is given ahead of those left.
# The lesser roll is tried first, so the first way is met first. A strip fewer never
# needs more: once a roll is too short, no way that goes on from there fits.
def way_from(spares, loads, left):
    if len(left) == 0:
        return []
    for j, load in enumerate(loads):
        more = load + (1 << left[0])
        if spares[j][more] >= 0:
            way = way_from(spares, loads[:j] + [more] + loads[j + 1:], left[1:])
            if way is not None:
                return [j] + way
    return None


# Each strip's roll, or None where they don't fit.
def first_way(spares, chosen):
    return way_from(spares, [0] * len(spares), chosen)


def loads_of_way(way, count):
    loads = [0] * count
    for i, j in enumerate(way):
        loads[j] = loads[j] + (1 << i)
    return loads


def strips_of_set(number, count):
    return [i for i in range(count) if (number >> i) & 1 == 1]


# Numbers go up, and only a set of more strips takes another's place: of like ones the least is kept.
def largest_set(spares, count):
    largest = 0
    size = 0
    for number in range(1 << count):
        chosen = strips_of_set(number, count)
        if len(chosen) > size and first_way(spares, chosen) is not None:
            largest = number
            size = len(chosen)
    return (size, largest)
