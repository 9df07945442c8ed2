"""The document's words read plainly, over sets of cells (x, y), and texts to try the calls with.

Nothing here draws on the program: the tests hold its answers against these.
"""

import re

NUMBER = "(0|[1-9]|[1-5][0-9]|6[0-4])"
CORNER = f"{NUMBER},{NUMBER}"
LINE = f"{CORNER}( {CORNER}){{3,}}\n"
RIGHT_SHAPE = re.compile(f"({LINE})+")

# Whatever a text of right shape begins with, one of these ends it rightly.
ENDINGS = (
    "",
    "0,0 0,0 0,0 0,0\n",
    ",0 0,0 0,0 0,0\n",
    "0 0,0 0,0 0,0\n",
    " 0,0 0,0 0,0\n",
)

UNIT = "0,0 1,0 1,1 0,1\n"
RING = "0,0 3,0 3,3 0,3\n1,1 1,2 2,2 2,1\n"
EXAMPLE = "0,0 4,0 4,2 2,2 2,3 0,3\n"


def to_bytes(words):
    return list(words.encode("latin-1"))


# --- shapes of texts


def has_right_shape(words):
    return RIGHT_SHAPE.fullmatch(words) is not None


def begins_right_shape(words):
    return any(has_right_shape(words + ending) for ending in ENDINGS)


def first_wrong(words):
    for p in range(len(words)):
        if not begins_right_shape(words[: p + 1]):
            return p
    return len(words)


# --- houses


def rectangle(x, y, width, height):
    return {(x + i, y + j) for i in range(width) for j in range(height)}


def shifted(cells, x, y):
    return {(a + x, b + y) for a, b in cells}


def neighbours(cell):
    x, y = cell
    return [(x, y - 1), (x + 1, y), (x, y + 1), (x - 1, y)]


def corners_of(cell):
    x, y = cell
    return [(x, y), (x + 1, y), (x + 1, y + 1), (x, y + 1)]


def parts_of(spots):
    """The greatest parts in which a way leads from each to each, of cells or of half-cells."""
    left = set(spots)
    parts = []
    while left:
        part = set()
        edge = {left.pop()}
        while edge:
            part |= edge
            edge = {n for spot in edge for n in neighbours(spot) if n in left}
            left -= edge
        parts.append(part)
    return parts


def hangs_together(cells):
    return len(parts_of(cells)) == 1


def meets_in_point_alone(cells):
    for x, y in cells:
        for dx, dy in [(1, 1), (1, -1)]:
            if (x + dx, y + dy) in cells and (x + dx, y) not in cells and (x, y + dy) not in cells:
                return True
    return False


def is_house(cells):
    return 1 <= len(cells) <= 256 and hangs_together(cells) and not meets_in_point_alone(cells)


def walls(cells):
    """Every foot of wall as (from, to), the house on the left hand."""
    feet = []
    for cell in cells:
        around = corners_of(cell)
        for k, beside in enumerate(neighbours(cell)):
            if beside not in cells:
                feet.append((around[k], around[(k + 1) % 4]))
    return feet


def least_first(row):
    k = row.index(min(row, key=lambda point: (point[1], point[0])))
    return row[k:] + row[:k]


def turn(a, b, c):
    """1 if the way from a by b to c turns left at b, -1 if right, 0 if it goes straight on."""
    cross = (b[0] - a[0]) * (c[1] - b[1]) - (b[1] - a[1]) * (c[0] - b[0])
    return (cross > 0) - (cross < 0)


def turns(row):
    return [turn(row[k - 1], row[k], row[(k + 1) % len(row)]) for k in range(len(row))]


def walks(cells):
    following = dict(walls(cells))
    rows = []
    while following:
        row = [next(iter(following))]
        while row[-1] in following:
            row.append(following.pop(row[-1]))
        row.pop()
        rows.append(least_first([point for point, way in zip(row, turns(row)) if way != 0]))
    return sorted(rows, key=lambda row: (row[0][1], row[0][0]))


def line_of(row):
    return " ".join(f"{x},{y}" for x, y in row) + "\n"


def text_of(cells):
    return "".join(line_of(row) for row in walks(cells))


def plan_of(cells):
    """A house's text as the calls take it."""
    return to_bytes(text_of(cells))


def longest_row(cells):
    longest = 0
    for x, y in cells:
        length = 1
        while (x + length, y) in cells:
            length += 1
        longest = max(longest, length)
    return longest


def plain_facts(cells):
    rows = walks(cells)
    ways = [way for row in rows for way in turns(row)]
    return [len(cells), len(rows), ways.count(1), ways.count(-1), len(walls(cells)), longest_row(cells)]


def plain_cells(cells):
    answer = [len(cells)]
    for x, y in sorted(cells, key=lambda cell: (cell[1], cell[0])):
        answer += [x, y]
    return answer


# --- houses of cells, joined, turned and moved


def flat(pairs):
    return [number for pair in pairs for number in pair]


def pairs_in(numbers):
    return list(zip(numbers[0::2], numbers[1::2]))


def plain_text(pairs):
    on_ground = all(0 <= number <= 63 for number in flat(pairs))
    if not on_ground or not is_house(set(pairs)):
        return [-2]
    return [0] + plan_of(set(pairs))


def plain_join(how, first, second):
    return plain_text([first | second, first & second, first - second][how])


def placed(cells, x, y):
    """The cells moved so that their least x and their least y are these."""
    least_x = min(cell[0] for cell in cells)
    least_y = min(cell[1] for cell in cells)
    return shifted(cells, x - least_x, y - least_y)


def turned_cells(k, cells):
    """Every cell by the four points at its corners, each of them mirrored and turned about (0, 0)."""
    found = set()
    for cell in cells:
        points = corners_of(cell)
        if k >= 4:
            points = [(-x, y) for x, y in points]
        for quarter in range(k % 4):
            points = [(-y, x) for x, y in points]
        found.add(min(points))
    return placed(found, 0, 0)


def plain_moved(x, y, cells):
    there = placed(cells, x, y)
    if any(number > 63 for number in flat(there)):
        return [-4]
    return [0] + plan_of(there)


# --- the roof


def half_cells(cells):
    return {(i, j) for x, y in cells for i in (2 * x, 2 * x + 1) for j in (2 * y, 2 * y + 1)}


def lies_in(halves, columns, rows):
    return all((i, j) in halves for i in columns for j in rows)


def plain_height(halves, x, y):
    h = 0
    while lies_in(halves, range(x - h - 1, x + h + 1), range(y - h - 1, y + h + 1)):
        h += 1
    return h


def plain_depth(halves, i, j):
    """How deep a half-cell of the house lies."""
    k = 0
    while lies_in(halves, range(i - k - 1, i + k + 2), range(j - k - 1, j + k + 2)):
        k += 1
    return k


def plain_highest(halves):
    heights = {(x, y): plain_height(halves, x, y) for y in range(129) for x in range(129)}
    greatest = max(heights.values())
    y, x = min((y, x) for (x, y), height in heights.items() if height == greatest)
    return [greatest, x, y]


def depth_by_half(halves):
    return {(i, j): plain_depth(halves, i, j) for i, j in halves}


def plain_depths(deep):
    """deep tells of each half-cell of the house how deep it lies."""
    counts = [list(deep.values()).count(k) for k in range(max(deep.values()) + 1)]
    return [len(counts)] + counts


def plain_inset(k, deep):
    inner = {half for half in deep if deep[half] >= k}
    sizes = [len(part) for part in parts_of(inner)]
    rim = [half for half in inner if not set(neighbours(half)) <= inner]
    return [len(inner), len(sizes), max([0] + sizes), len(rim)]


def plain_space(halves):
    total = 0
    for i, j in halves:
        k = plain_depth(halves, i, j)
        ends = corners_of((i, j))
        for side in range(4):
            over_ends = plain_height(halves, *ends[side]) + plain_height(halves, *ends[(side + 1) % 4])
            total += 2 * over_ends + 2 * k + 1
    return total


# --- judging a text by the words alone


def rows_of(words):
    return [
        [tuple(int(number) for number in corner.split(",")) for corner in line.split(" ")]
        for line in words.splitlines()
    ]


def sides_of(row):
    return [(row[k - 1], row[k]) for k in range(len(row))]


def cells_within(rows):
    """The cells that have an odd number of walls to the west of them."""
    sides = [side for row in rows for side in sides_of(row)]
    points = [point for row in rows for point in row]
    within = set()
    for y in range(min(p[1] for p in points), max(p[1] for p in points)):
        west = [a[0] for a, b in sides if min(a[1], b[1]) <= y < max(a[1], b[1])]
        for x in range(min(p[0] for p in points), max(p[0] for p in points)):
            if len([wall for wall in west if wall <= x]) % 2 == 1:
                within.add((x, y))
    return within


def plain_house(words):
    """The house whose text this is, or None."""
    if not has_right_shape(words):
        return None
    cells = cells_within(rows_of(words))
    if is_house(cells) and text_of(cells) == words:
        return cells
    return None


def plain_judge(words):
    if not has_right_shape(words):
        return [0, 1, first_wrong(words)]
    cells = plain_house(words)
    return [0, 2, 0] if cells is None else [1, len(cells)]


# --- houses to try


def small_houses(width, height):
    """Every house within so many cells at the corner of the ground, by its text."""
    ground = sorted(rectangle(0, 0, width, height))
    found = {}
    for number in range(1, 2 ** len(ground)):
        cells = {cell for k, cell in enumerate(ground) if number >> k & 1}
        if hangs_together(cells) and not meets_in_point_alone(cells):
            found[text_of(cells)] = cells
    return found


def snake(length):
    """Rows of 64 cells, to and fro, with an empty row between two of them."""
    way = []
    for y in range(64):
        eastward = y // 2 % 2 == 0
        if y % 2 == 0:
            way += [(x if eastward else 63 - x, y) for x in range(64)]
        else:
            way.append((63 if eastward else 0, y))
    return set(way[:length])


def stairs(length):
    """Up a step at every cell and down again, then back above it: as many corners as can be."""
    way = []
    for x in range(64):
        rise = min(x, 63 - x)
        way += [(x, rise), (x, rise + 1)] if x < 32 else [(x, rise + 1), (x, rise)]
    back = [(x, y + 4) for x, y in reversed(way)]
    return set((way + [(63, 2), (63, 3)] + back)[:length])


def spiral(length):
    """Inward from the edge of 24 by 24 cells, with an empty way between."""
    x, y = 0, 0
    way = [(x, y)]
    side = 23
    k = 0
    while len(way) < length:
        dx, dy = [(1, 0), (0, 1), (-1, 0), (0, -1)][k % 4]
        for step in range(side):
            x, y = x + dx, y + dy
            way.append((x, y))
        k += 1
        if k >= 3 and k % 2 == 1:
            side -= 2
    return set(way[:length])


def courtyards(across, along):
    """A house with so many courtyards of one cell each, a cell's breadth between them."""
    house = rectangle(0, 0, 2 * across + 1, 2 * along + 1)
    return house - {(2 * i + 1, 2 * j + 1) for i in range(across) for j in range(along)}


def transposed(cells):
    return {(y, x) for x, y in cells}


def numbers_from(seed):
    """A row of numbers without end that looks as if it had no rule, and is the same at each run."""
    state = seed
    while True:
        state = (state * 1103515245 + 12345) % 2**31
        yield state >> 8


def mixed(things, seed):
    numbers = numbers_from(seed)
    return [thing for number, thing in sorted((next(numbers), thing) for thing in things)]


def grown(seed, size, width=64, height=64):
    """A house of so many cells, or of as many as there's room for, grown cell by cell within a ground."""
    numbers = numbers_from(seed)
    cells = {(next(numbers) % width, next(numbers) % height)}
    edge = neighbours(min(cells))
    while edge and len(cells) < size:
        cell = edge.pop(next(numbers) % len(edge))
        within = 0 <= cell[0] < width and 0 <= cell[1] < height
        if within and cell not in cells and not meets_in_point_alone(cells | {cell}):
            cells.add(cell)
            edge += neighbours(cell)
    return cells


HOUSES = {
    "the document's example": {(0, 0), (1, 0), (2, 0), (3, 0), (0, 1), (1, 1), (2, 1), (3, 1), (0, 2), (1, 2)},
    "one cell, south-west": {(0, 0)},
    "one cell, south-east": {(63, 0)},
    "one cell, north-west": {(0, 63)},
    "one cell, north-east": {(63, 63)},
    "one cell within": {(9, 10)},
    "square of 256": rectangle(0, 0, 16, 16),
    "square of 256, north-east": rectangle(48, 48, 16, 16),
    "a row over the whole ground": rectangle(0, 63, 64, 1),
    "a row from south to north": rectangle(63, 0, 1, 64),
    "four rows of 64": rectangle(0, 30, 64, 4),
    "snake": snake(256),
    "snake upright": transposed(snake(256)),
    "stairs": stairs(256),
    "stairs upright": transposed(stairs(256)),
    "spiral": spiral(256),
    "around the whole ground": rectangle(0, 0, 64, 64) - rectangle(1, 1, 62, 62),
    "courtyard of one cell": courtyards(1, 1),
    "courtyard of one cell, north-east": shifted(courtyards(1, 1), 61, 61),
    "72 courtyards": courtyards(8, 9),
    "two courtyards in a row": courtyards(2, 1),
    "two courtyards in a column": courtyards(1, 2),
    "courtyards of many shapes": rectangle(5, 7, 14, 12)
    - rectangle(6, 8, 3, 3)
    - rectangle(10, 9, 1, 6)
    - rectangle(8, 14, 3, 1)
    - rectangle(12, 8, 4, 1)
    - rectangle(12, 10, 6, 6)
    | rectangle(12, 12, 3, 1),
    "two halves and a passage": rectangle(0, 0, 5, 3) | rectangle(5, 1, 9, 1) | rectangle(14, 0, 4, 4),
    "three rooms alike and a smaller one": rectangle(0, 0, 4, 4)
    | rectangle(4, 1, 2, 1)
    | rectangle(6, 0, 4, 4)
    | rectangle(7, 4, 1, 3)
    | rectangle(6, 7, 4, 4)
    | rectangle(5, 8, 1, 1)
    | rectangle(2, 8, 3, 2),
    "squares that overlap in a cell": rectangle(30, 60, 2, 2) | rectangle(31, 61, 2, 2),
    "squares that overlap in a cell, the other slant": rectangle(3, 0, 3, 3) | rectangle(1, 2, 3, 3),
    "a large courtyard": rectangle(50, 0, 14, 14) - rectangle(54, 5, 5, 4),
    "a row broken by a gap": rectangle(0, 0, 9, 1) | rectangle(0, 1, 4, 1) | rectangle(6, 1, 3, 1),
}

# Of many sizes and shapes, at any place of the ground.
GROWN = [grown(seed, 1 + seed * seed % 97, 16, 16) for seed in range(1, 25)]
GROWN += [shifted(grown(seed, 60, 10, 9), 54, 55) for seed in range(25, 31)]
GROWN += [grown(seed, 120, 64, 64) for seed in range(31, 35)]
GROWN += [grown(seed, 256, 20, 20) for seed in range(35, 37)]

ALL_HOUSES = list(HOUSES.values()) + GROWN

HOUSE_257 = rectangle(20, 30, 16, 16) | {(36, 45)}

# Texts of right shape that are no house's.
NO_HOUSES = {
    "walked the wrong way": "0,0 0,1 1,1 1,0\n",
    "six corners, walked the wrong way": "0,0 0,3 2,3 2,2 4,2 4,0\n",
    "courtyard walked the wrong way": "0,0 3,0 3,3 0,3\n1,1 2,1 2,2 1,2\n",
    "outer walk the wrong way, courtyard right": "0,0 0,3 3,3 3,0\n1,1 1,2 2,2 2,1\n",
    "begun at the second corner": "1,0 1,1 0,1 0,0\n",
    "begun at the third corner": "1,1 0,1 0,0 1,0\n",
    "begun at the last corner": "0,1 0,0 1,0 1,1\n",
    "begun at the least x of a higher y": "0,1 1,1 1,0 2,0 2,2 0,2\n",
    "courtyard begun at another corner": "0,0 3,0 3,3 0,3\n1,2 2,2 2,1 1,1\n",
    "courtyard first": "1,1 1,2 2,2 2,1\n0,0 3,0 3,3 0,3\n",
    "courtyards in another order, by x": "0,0 5,0 5,3 0,3\n3,1 3,2 4,2 4,1\n1,1 1,2 2,2 2,1\n",
    "courtyards in another order, by y": "0,0 3,0 3,5 0,5\n1,3 1,4 2,4 2,3\n1,1 1,2 2,2 2,1\n",
    "courtyards by x ahead of y": "0,0 5,0 5,5 0,5\n1,3 1,4 2,4 2,3\n3,1 3,2 4,2 4,1\n",
    "a corner without a turn": "0,0 1,0 2,0 2,1 0,1\n",
    "a corner without a turn, at the end": "0,0 1,0 1,2 0,2 0,1\n",
    "a corner where the walk turns back": "0,0 3,0 2,0 2,1 0,1\n",
    "a corner told twice": "0,0 1,0 1,0 1,1 0,1\n",
    "the first corner told twice": "0,0 0,0 1,0 1,1 0,1\n",
    "the first corner again at the end": "0,0 1,0 1,1 0,1 0,0\n",
    "a walk told twice in one line": "0,0 1,0 1,1 0,1 0,0 1,0 1,1 0,1\n",
    "the first wall slanting": "0,0 2,1 2,2 0,2\n",
    "a wall in the midst slanting": "0,0 2,0 3,1 3,2 0,2\n",
    "the last wall slanting": "0,0 2,0 2,2 1,2\n",
    "all walls slanting": "1,0 2,1 1,2 0,1\n",
    "walks that cross": "0,0 2,0 2,2 0,2\n1,1 3,1 3,3 1,3\n",
    "walk that crosses itself": "0,0 3,0 3,2 1,2 1,1 2,1 2,3 0,3\n",
    "courtyard across the outer wall": "0,0 3,0 3,3 0,3\n2,1 2,2 4,2 4,1\n",
    "walks that touch in a point": "0,0 1,0 1,1 0,1\n1,1 2,1 2,2 1,2\n",
    "walk that touches itself in a point": "0,0 1,0 1,1 2,1 2,2 1,2 1,1 0,1\n",
    "walk that touches itself, turned at the point": "0,0 1,0 1,2 2,2 2,1 0,1\n",
    "courtyards that touch in a point": "0,0 4,0 4,4 0,4\n1,1 1,2 2,2 2,1\n2,2 2,3 3,3 3,2\n",
    "courtyard that touches the outer walk": "1,0 3,0 3,3 0,3 0,1 1,1\n1,1 1,2 2,2 2,1\n",
    "cells that meet in a point, to the west": "1,0 2,0 2,1 1,1\n0,1 1,1 1,2 0,2\n",
    "cells that meet in a point within a ring": "0,0 3,0 3,3 1,3 1,2 2,2 2,1 1,1 1,2 0,2\n",
    "walls on one another": "0,0 1,0 1,1 0,1\n1,0 2,0 2,1 1,1\n",
    "walls on one another, northward": "0,0 1,0 1,1 0,1\n0,1 1,1 1,2 0,2\n",
    "courtyard on the outer wall": "0,0 3,0 3,3 0,3\n0,1 0,2 1,2 1,1\n",
    "courtyards on one another": "0,0 4,0 4,3 0,3\n1,1 1,2 2,2 2,1\n2,1 2,2 3,2 3,1\n",
    "outer walk and courtyard joined by a way": "0,0 3,0 3,3 1,3 1,2 2,2 2,1 1,1 1,3 0,3\n",
    "parts without a way between": "0,0 1,0 1,1 0,1\n3,0 4,0 4,1 3,1\n",
    "parts without a way between, northward": "0,0 1,0 1,1 0,1\n0,2 1,2 1,3 0,3\n",
    "parts at the two ends of the ground": "63,0 64,0 64,1 63,1\n0,1 1,1 1,2 0,2\n",
    "courtyard outside of the house": "0,0 3,0 3,3 0,3\n5,5 5,6 6,6 6,5\n",
    "courtyard within a courtyard": "0,0 5,0 5,5 0,5\n1,1 1,4 4,4 4,1\n2,2 2,3 3,3 3,2\n",
    "a cell within a courtyard": "0,0 5,0 5,5 0,5\n1,1 1,4 4,4 4,1\n2,2 3,2 3,3 2,3\n",
    "courtyard as large as the house": "0,0 3,0 3,3 0,3\n0,0 0,3 3,3 3,0\n",
    "a line told twice": UNIT + UNIT,
    "a line told three times": UNIT + UNIT + UNIT,
    "a house told twice": RING + RING,
    "a house told three times": RING + RING + RING,
    "courtyard told twice": RING + "1,1 1,2 2,2 2,1\n",
    "courtyard told three times": RING + "1,1 1,2 2,2 2,1\n" * 2,
    "one point": "0,0 0,0 0,0 0,0\n",
    "to and fro": "0,0 5,0 0,0 5,0\n",
    "to and fro, northward": "3,0 3,64 3,0 3,64\n",
    "along and back": "0,0 0,1 0,2 0,1\n",
    "17 by 16 cells": "0,0 17,0 17,16 0,16\n",
    "the whole ground": "0,0 64,0 64,64 0,64\n",
    "257 cells": text_of(HOUSE_257),
    "257 cells in a snake": text_of(snake(257)),
    "257 cells in stairs": text_of(stairs(257)),
}

# Texts of wrong shape, each with its first wrong byte.
WRONG_SHAPES = [
    ("", 0),
    ("00", 1),
    ("01,0", 1),
    ("0,00", 3),
    ("0,01 1,1", 3),
    ("0,0 1,0 1,1 0,01\n", 15),
    ("65", 1),
    ("66,0", 1),
    ("70", 1),
    ("99", 1),
    ("640", 2),
    ("100", 2),
    ("0,65", 3),
    ("0,640", 4),
    ("0,0 65,0", 5),
    ("\n", 0),
    ("0\n", 1),
    ("0,\n", 2),
    ("0,0\n", 3),
    ("0,0 \n", 4),
    ("0,0 1,0\n", 7),
    ("0,0 1,0 1,1\n", 11),
    ("0,0 1,0 1,1\n0,0 1,0 1,1 0,1\n", 11),
    ("0,0 1,0 1,1 0\n", 13),
    ("0,0 1,0 1,1 0,1 \n", 16),
    ("0,0 1,0 1,1 0,1  0,0\n", 16),
    (UNIT + "\n", 16),
    (UNIT + " ", 16),
    (UNIT + ",", 16),
    (UNIT + "\x00", 16),
    (UNIT + "0,0 1,0 1,1\n", 27),
    (UNIT + "0,0 1,0 1,1 0,1 \n", 32),
    (UNIT + "0,0 1,00", 23),
    (UNIT + UNIT + "0,0 65", 37),
    (",", 0),
    (",0", 0),
    ("0,,", 2),
    ("0,0,", 3),
    ("0,0 ,", 4),
    ("0,0,0 1", 3),
    (" ", 0),
    (" 0,0", 0),
    ("0 ", 1),
    ("0 ,0", 1),
    ("0, 0", 2),
    ("0,0  1,0", 4),
    ("0,0 1 0,1", 5),
    ("\x00", 0),
    ("\xff", 0),
    ("a", 0),
    ("-1,0", 0),
    ("+1,0", 0),
    ("0\x00", 1),
    ("0,\xff", 2),
    ("0,0a", 3),
    ("0,0 b", 4),
    ("1/", 1),
    ("1:", 1),
    ("/", 0),
    (":", 0),
    ("0.0", 1),
    ("0,0\t1,0", 3),
    ("0,0 1,0 1,1 0,1\r\n", 15),
    ("\xb2,0", 0),
    ("6", 1),
    ("64", 2),
    ("0,", 2),
    ("0,6", 3),
    ("0,0 ", 4),
    ("0,0 1,0 1,1 ", 12),
    ("0,0 1,0 1,1 0,1", 15),
    ("0,0 1,0 1,1 0,1 ", 16),
    ("0,0 1,0 1,1 0,1 0,0", 19),
    (UNIT + "0", 17),
    (UNIT + "0,", 18),
    (UNIT + "0,0 ", 20),
    (UNIT + "0,0 1,0 1,1 0,1", 31),
]

# Every text above that is no house's, as the calls take it.
WRONG_TEXTS = [to_bytes(words) for words in NO_HOUSES.values()] + [to_bytes(words) for words, wrong in WRONG_SHAPES]
