"""The calls: each takes texts as lists of bytes, and answers a list of whole numbers.

A refusal is its number alone: -1 a text is no house's, -2 the cells are no
house, -3 a number is out of its bounds.
"""

from roofplans.ground import cells_at, pairs_of
from roofplans.houses import house_of_lines, house_of_text, is_house, longest_row
from roofplans.moves import LAST_TURN, LAST_WAY_TO_JOIN, joined, turned_house
from roofplans.reading import read_text
from roofplans.walks import count_outward, wall_steps, walk_rows
from roofplans.writing import house_bytes


def judge(t):
    reader = read_text(t)
    if reader.wrong is not None:
        return [0, 1, reader.wrong]
    house = house_of_lines(reader.lines)
    if not house:
        return [0, 2, 0]
    return [1, len(house)]


def facts(t):
    house = house_of_text(t)
    if not house:
        return [-1]
    rows = walk_rows(house)
    corners = sum([len(row) for row in rows])
    outward = sum([count_outward(house, row) for row in rows])
    feet = len(wall_steps(house))
    return [len(house), len(rows), outward, corners - outward, feet, longest_row(house)]


def cells(t):
    house = house_of_text(t)
    if not house:
        return [-1]
    answer = [len(house)]
    for pair in pairs_of(house):
        answer.extend(pair)
    return answer


def text_if_house(found):
    if not is_house(found):
        return [-2]
    return [0] + house_bytes(found)


def text(cells):
    pairs = [(cells[k], cells[k + 1]) for k in range(0, len(cells), 2)]
    return text_if_house(cells_at(pairs))


def join(how, t, u):
    if how > LAST_WAY_TO_JOIN:
        return [-3]
    first = house_of_text(t)
    second = house_of_text(u)
    if not first or not second:
        return [-1]
    return text_if_house(joined(how, first, second))


def turned(k, t):
    if k > LAST_TURN:
        return [-3]
    house = house_of_text(t)
    if not house:
        return [-1]
    return [0] + house_bytes(turned_house(k, house))
