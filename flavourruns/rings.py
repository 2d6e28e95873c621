"""Which ring through all flavours takes the fewest minutes.

A way is a tuple (minutes, flavours): it has gone through these flavours, flavour 0 first, and the
changes between them took so many minutes.
"""


# The keys of ways are tuples (flavours left, flavour gone to last). Of the ways to one key, what follows
# is the same for all, so the least one of them stays the least.
def one_flavour_further(works, ways):
    further = {}
    for key, way in ways.items():
        left = key[0]
        for place, flavour in enumerate(left):
            longer = (way[0] + works.change_minutes(key[1], flavour), way[1] + (flavour,))
            after = (left[:place] + left[place + 1:], flavour)
            further[after] = min(longer, further.get(after, longer))
    return further


def best_ring(works):
    others = tuple(range(1, works.flavours))
    ways = {(others, 0): (0, (0,))}
    for flavour in others:
        ways = one_flavour_further(works, ways)
    return min([(way[0] + works.change_minutes(way[1][-1], 0), way[1]) for way in ways.values()])
