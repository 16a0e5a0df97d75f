"""How strips lie that are cut one behind another from a roll that begins at place 0."""


# place may be anywhere along the roll: what is left of it by the repeat is all that counts.
def gap_ahead(place, strip, repeat):
    return (strip.begins - place) % repeat


def order_need(strips, order, repeat):
    end = 0
    for i in order:
        strip = strips[i]
        end = end + gap_ahead(end, strip, repeat) + strip.long
    return end


# Where a strip ends in the pattern is the same in every order, so what comes behind it
# may be chosen by itself: the best order from there on is best whatever came before.
# left goes up, so of orders that need the same the first one is met first, and kept.
def best_from(place, strips, left, repeat):
    best = (0, [])
    for k, i in enumerate(left):
        strip = strips[i]
        rest = best_from(strip.begins + strip.long, strips, left[:k] + left[k + 1:], repeat)
        need = gap_ahead(place, strip, repeat) + strip.long + rest[0]
        if k == 0 or need < best[0]:
            best = (need, [i] + rest[1])
    return best
