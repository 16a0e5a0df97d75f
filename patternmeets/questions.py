"""The calls that only ask, and change nothing.

Each answers a list: the number, then what else is answered, or the refusal alone.
"""

from patternmeets.orders import best_from, gap_ahead, order_need
from patternmeets.refusals import NO_SUCH, NOT_AS_TOLD


def gap(carpet, i, j):
    count = len(carpet.strips)
    if i >= count or j >= count:
        return [NO_SUCH]
    if i == j:
        return [NOT_AS_TOLD]
    first = carpet.strips[i]
    return [gap_ahead(first.begins + first.long, carpet.strips[j], carpet.repeat)]


# A number in the row that is no strip is refused like any other row that isn't all strips, each once.
def need(carpet, order):
    if sorted(order) != list(range(len(carpet.strips))):
        return [NOT_AS_TOLD]
    whole = order_need(carpet.strips, order, carpet.repeat)
    return [whole, whole - sum([strip.long for strip in carpet.strips])]


def best(carpet):
    found = best_from(0, carpet.strips, list(range(len(carpet.strips))), carpet.repeat)
    return [found[0]] + found[1]
