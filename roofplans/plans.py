"""The calls: each takes texts as lists of bytes, and answers a list of whole numbers.

A refusal is its number alone: -1 a text is no house's, -2 the cells are no
house, -3 a number is out of its bounds, -4 it would go beyond the edge, -5
it is outside.
"""

from roofplans.ground import cells_at, eastward, northward, pairs_of, place
from roofplans.houses import house_of_lines, house_of_text, is_house, longest_row
from roofplans.moves import LAST_TURN, LAST_WAY_TO_JOIN, joined, moved_to, turned_house
from roofplans.reading import read_text
from roofplans.roofs import (
    LAST_HALF_CELL,
    LAST_POINT,
    count_by_depth,
    count_rim,
    depth_of,
    half_cells,
    height_over,
    highest_point,
    lying_in_by,
    piece_sizes,
    space_under,
)
from roofplans.walks import count_outward, wall_steps, walk_rows
from roofplans.writing import house_bytes


def judge(t):
    reader = read_text(t)
    if reader.wrong is not None:
        return [0, 1, reader.wrong]
    house = house_of_lines(reader.lines)
    if not house:
        return [0, 2, 0]
    return [1, len(house)]


def facts(t):
    house = house_of_text(t)
    if not house:
        return [-1]
    rows = walk_rows(house)
    corners = sum([len(row) for row in rows])
    outward = sum([count_outward(house, row) for row in rows])
    feet = len(wall_steps(house))
    return [len(house), len(rows), outward, corners - outward, feet, longest_row(house)]


def cells(t):
    house = house_of_text(t)
    if not house:
        return [-1]
    answer = [len(house)]
    for pair in pairs_of(house):
        answer.extend(pair)
    return answer


def text_if_house(found):
    if not is_house(found):
        return [-2]
    return [0] + house_bytes(found)


def text(cells):
    pairs = [(cells[k], cells[k + 1]) for k in range(0, len(cells), 2)]
    return text_if_house(cells_at(pairs))


def join(how, t, u):
    if how > LAST_WAY_TO_JOIN:
        return [-3]
    first = house_of_text(t)
    second = house_of_text(u)
    if not first or not second:
        return [-1]
    return text_if_house(joined(how, first, second))


def turned(k, t):
    if k > LAST_TURN:
        return [-3]
    house = house_of_text(t)
    if not house:
        return [-1]
    return [0] + house_bytes(turned_house(k, house))


def moved(x, y, t):
    house = house_of_text(t)
    if not house:
        return [-1]
    there = cells_at(moved_to(pairs_of(house), x, y))
    if not there:
        return [-4]
    return [0] + house_bytes(there)


def height(px, py, t):
    if px > LAST_POINT or py > LAST_POINT:
        return [-3]
    house = house_of_text(t)
    if not house:
        return [-1]
    return [height_over(half_cells(house), place(px, py))]


def depth(i, j, t):
    if i > LAST_HALF_CELL or j > LAST_HALF_CELL:
        return [-3]
    house = house_of_text(t)
    if not house:
        return [-1]
    halves = half_cells(house)
    half = place(i, j)
    if half not in halves:
        return [-5]
    return [depth_of(halves, half)]


def highest(t):
    house = house_of_text(t)
    if not house:
        return [-1]
    halves = half_cells(house)
    point = highest_point(halves)
    return [height_over(halves, point), eastward(point), northward(point)]


def inset(k, t):
    house = house_of_text(t)
    if not house:
        return [-1]
    inner = lying_in_by(k, half_cells(house))
    sizes = piece_sizes(inner)
    return [len(inner), len(sizes), max(sizes, default=0), count_rim(inner)]


def depths(t):
    house = house_of_text(t)
    if not house:
        return [-1]
    counts = count_by_depth(half_cells(house))
    return [len(counts)] + counts


def space(t):
    house = house_of_text(t)
    if not house:
        return [-1]
    return [space_under(half_cells(house))]


def holds(t, u):
    house = house_of_text(t)
    part = house_of_text(u)
    if not house or not part:
        return [-1]
    if all([cell in house for cell in part]):
        return [1]
    return [0]
