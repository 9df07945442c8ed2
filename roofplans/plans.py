"""The calls: each takes a text as a list of bytes, and answers a list of whole numbers."""

from roofplans.ground import eastward, northward
from roofplans.houses import house_of_lines, house_of_text, longest_row
from roofplans.reading import read_text
from roofplans.walks import count_outward, wall_steps, walk_rows


def judge(t):
    reader = read_text(t)
    if reader.wrong is not None:
        return [0, 1, reader.wrong]
    house = house_of_lines(reader.lines)
    if not house:
        return [0, 2, 0]
    return [1, len(house)]


def facts(t):
    house = house_of_text(t)
    if not house:
        return [-1]
    rows = walk_rows(house)
    corners = sum([len(row) for row in rows])
    outward = sum([count_outward(house, row) for row in rows])
    feet = len(wall_steps(house))
    return [len(house), len(rows), outward, corners - outward, feet, longest_row(house)]


def cells(t):
    house = house_of_text(t)
    if not house:
        return [-1]
    answer = [len(house)]
    for cell in sorted(house):
        answer.append(eastward(cell))
        answer.append(northward(cell))
    return answer
