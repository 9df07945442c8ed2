"""The roof over a house: how high it is over points, and how deep half-cells lie.

Points and half-cells are numbered like cells, by halves of a foot. The
half-cells of a house are a dict's keys.
"""

from roofplans.ground import ROW, beside
from roofplans.houses import reached_from

LAST_HALF_CELL = 127
LAST_POINT = 128


# From a cell's least half-cell on these are its half-cells; from a half-cell
# on, taken for points, they are its corners.
def four_from(spot):
    return (spot, spot + 1, spot + ROW, spot + ROW + 1)


# The half-cell (2 x, 2 y) has twice the number of the cell (x, y).
def half_cells(house):
    halves = {}
    for cell in house:
        for half in four_from(2 * cell):
            halves[half] = True
    return halves


def border_within(halves, least, side):
    last = side - 1
    for step in range(side):
        for half in (least + step, least + last * ROW + step, least + step * ROW, least + step * ROW + last):
            if half not in halves:
                return False
    return True


# How often a square of half-cells that lies in the house can grow by one on
# every side and still lie in it; least is its half-cell in the south-west.
# What it was before it grew lies in the house, so its border alone is new.
def room_about(halves, least, side):
    room = 0
    while border_within(halves, least - (room + 1) * (ROW + 1), side + 2 * (room + 1)):
        room = room + 1
    return room


# The square about a point begins with no half-cell at all.
def height_over(halves, point):
    return room_about(halves, point, 0)


def depth_of(halves, half):
    return room_about(halves, half, 1)


# A point has the number of the half-cell to the north-east of it, which is in
# the house where the height is above 0: so these points are enough. Of those
# with the greatest height max takes the first.
def highest_point(halves):
    return max(sorted(halves), key=lambda point: height_over(halves, point))


def count_by_depth(halves):
    found = [depth_of(halves, half) for half in halves]
    return [found.count(k) for k in range(max(found) + 1)]


def lying_in_by(k, halves):
    inner = {}
    for half in halves:
        if depth_of(halves, half) >= k:
            inner[half] = True
    return inner


def piece_sizes(inner):
    seen = {}
    sizes = []
    for half in inner:
        if half not in seen:
            piece = reached_from(inner, half)
            seen.update(piece)
            sizes.append(len(piece))
    return sizes


def is_on_rim(inner, half):
    return any([near not in inner for near in beside(half)])


def count_rim(inner):
    return len([half for half in inner if is_on_rim(inner, half)])


# Most points are corners of four half-cells: each is looked at once.
def corner_heights(halves):
    heights = {}
    for half in halves:
        for point in four_from(half):
            if point not in heights:
                heights[point] = height_over(halves, point)
    return heights


# Each corner ends two of a half-cell's four sides, and counts twice at each:
# four times in all.
def space_under(halves):
    heights = corner_heights(halves)
    total = 0
    for half in halves:
        over_corners = sum([heights[point] for point in four_from(half)])
        total = total + 4 * over_corners + 4 * (2 * depth_of(halves, half) + 1)
    return total
