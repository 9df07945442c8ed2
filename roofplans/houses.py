"""Which cells are a house, and which house a text tells.

A house is a dict with its cells as keys, in any order; an empty one stands
for no house, since every house has a cell.
"""

from roofplans.ground import ROW, beside, eastward, northward
from roofplans.reading import read_text
from roofplans.walks import walk_rows

MOST_CELLS = 256


def meet_in_point_alone(house):
    for cell in house:
        if cell + ROW not in house:
            if cell + ROW + 1 in house and cell + 1 not in house:
                return True
            if cell + ROW - 1 in house and cell - 1 not in house:
                return True
    return False


# Cells or half-cells: all to which a way leads from the first within these.
def reached_from(spots, first):
    reached = {first: True}
    waiting = [first]
    while waiting:
        spot = waiting.pop()
        for near in beside(spot):
            if near in spots and near not in reached:
                reached[near] = True
                waiting.append(near)
    return reached


def is_house(house):
    if len(house) < 1 or len(house) > MOST_CELLS or meet_in_point_alone(house):
        return False
    return len(reached_from(house, min(house))) == len(house)


def at_right_angles(lines):
    for line in lines:
        for k, corner in enumerate(line):
            before = line[k - 1]
            if eastward(before) != eastward(corner) and northward(before) != northward(corner):
                return False
    return True


# The lower ends of the feet of wall from south to north, or back, that are
# told an odd number of times.
def odd_uprights(lines):
    times = {}
    for line in lines:
        for k, corner in enumerate(line):
            before = line[k - 1]
            if eastward(before) == eastward(corner):
                for foot in range(min(before, corner), max(before, corner), ROW):
                    times[foot] = times.get(foot, 0) + 1
    return sorted([foot for foot in times if times[foot] % 2 == 1])


# A closed line passes each row of cells northward as often as southward. So
# each row has an even number of uprights, and what lies within lies between
# the first and the second, the third and the fourth, and so on.
def cells_within(lines):
    uprights = odd_uprights(lines)
    within = {}
    for k in range(0, len(uprights), 2):
        for cell in range(uprights[k], uprights[k + 1]):
            within[cell] = True
    return within


# If the lines are those of a house, what lies within them is that house; and
# as it has one text, they are its lines only if they are just its walks.
def house_of_lines(lines):
    if at_right_angles(lines):
        house = cells_within(lines)
        if is_house(house) and walk_rows(house) == lines:
            return house
    return {}


def house_of_text(t):
    reader = read_text(t)
    if reader.wrong is not None:
        return {}
    return house_of_lines(reader.lines)


def longest_row(house):
    longest = 0
    length = 0
    for cell in sorted(house):
        length = length + 1 if cell - 1 in house else 1
        longest = max(longest, length)
    return longest
