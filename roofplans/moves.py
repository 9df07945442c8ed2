"""Cells joined, turned and moved; cells are a dict's keys, pairs a list of (x, y)."""

from roofplans.ground import cells_at, pairs_of

IN_EITHER = 0
IN_BOTH = 1
LAST_WAY_TO_JOIN = 2

QUARTERS = 4
LAST_TURN = 7


def joined(how, first, second):
    if how == IN_EITHER:
        either = dict(first)
        either.update(second)
        return either
    shared = how == IN_BOTH
    chosen = {}
    for cell in first:
        if (cell in second) == shared:
            chosen[cell] = True
    return chosen


def moved_to(pairs, x, y):
    least_x = min([pair[0] for pair in pairs])
    least_y = min([pair[1] for pair in pairs])
    return [(pair[0] - least_x + x, pair[1] - least_y + y) for pair in pairs]


# Mirrored and turned pairs lie a foot off where the cells would, and below 0:
# all alike, so moving them sets it right.
def mirrored(pairs):
    return [(-x, y) for x, y in pairs]


def turned_left(pairs):
    return [(-y, x) for x, y in pairs]


def turned_house(k, house):
    pairs = pairs_of(house)
    if k >= QUARTERS:
        pairs = mirrored(pairs)
    for quarter in range(k % QUARTERS):
        pairs = turned_left(pairs)
    return cells_at(moved_to(pairs, 0, 0))
