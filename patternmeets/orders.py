"""How strips lie that are cut one behind another from a roll, and which order needs least.

A set of strips is written as a number: bit i for strip i.
"""

from patternmeets.places import gap_ahead


def order_need(strips, order, repeat):
    end = 0
    for i in order:
        strip = strips[i]
        end = end + gap_ahead(end, strip, repeat) + strip.long
    return end


# firsts: by each strip that may be cut first, what is needed from its beginning on.
def least_from(place, strips, firsts, repeat):
    return min([gap_ahead(place, strips[i], repeat) + firsts[i] for i in firsts], default=0)


# Where a strip ends in the pattern is the same in every order, so what comes behind it
# may be chosen by itself: the best order from there on is best whatever came before.
# So a set's firsts are built from those of the sets with one strip fewer, which are lesser numbers.
def firsts_of_sets(strips, repeat):
    found = [{}]
    for chosen in range(1, 1 << len(strips)):
        firsts = {}
        for i, strip in enumerate(strips):
            if (chosen >> i) & 1 == 1:
                rest = found[chosen - (1 << i)]
                firsts[i] = strip.long + least_from(strip.begins + strip.long, strips, rest, repeat)
        found.append(firsts)
    return found


def least_need(strips, repeat):
    return least_from(0, strips, firsts_of_sets(strips, repeat)[-1], repeat)


# The strips of firsts go up, so of some that need the same the least is met first, and kept.
def best_first(place, strips, firsts, repeat):
    return min(list(firsts), key=lambda i: gap_ahead(place, strips[i], repeat) + firsts[i])


def best_order(strips, repeat):
    found = firsts_of_sets(strips, repeat)
    left = len(found) - 1
    place = 0
    order = []
    while left != 0:
        i = best_first(place, strips, found[left], repeat)
        order.append(i)
        place = strips[i].begins + strips[i].long
        left = left - (1 << i)
    return order


# Ends of the same last strip differ by whole repeats alone, so the sooner one is
# the better one to go on from, whatever comes next.
def least_with_last(strips, others, last, repeat):
    strip = strips[last]
    ends = []
    for k, i in enumerate(others):
        ends.append(least_with_last(strips, others[:k] + others[k + 1:], i, repeat))
    needs = [end + gap_ahead(end, strip, repeat) + strip.long for end in ends]
    return min(needs, default=strip.begins + strip.long)


# All strips moved alike keep the gaps between them; only what lies ahead of the first one changes.
# So least is needed just where the first strip of an order that needs least begins with the roll.
def best_shift(strips, repeat):
    firsts = firsts_of_sets(strips, repeat)[-1]
    least = min([firsts[i] for i in firsts], default=0)
    shifts = [(repeat - strips[i].begins) % repeat for i in firsts if firsts[i] == least]
    return (min(shifts, default=0), least)
