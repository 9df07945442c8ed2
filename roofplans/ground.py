"""How the cells, the half-cells and the points of the ground are numbered.

Each of them, (x, y), is the one whole number y * ROW + x, so numbers stand in
the order that is asked for: by y, of equal ones by x.
"""

# Far wider than the ground's 64 cells, 128 half-cells or 129 points: so a
# step or several across an edge lead to a number that no cell and no
# half-cell has, and edges need no care of their own.
ROW = 256

# How many cells the ground has each way.
SIDE = 64


def place(x, y):
    return y * ROW + x


def eastward(spot):
    return spot % ROW


def northward(spot):
    return spot // ROW


def beside(spot):
    return (spot - ROW, spot - 1, spot + 1, spot + ROW)


def pairs_of(cells):
    return [(eastward(cell), northward(cell)) for cell in sorted(cells)]


# A dict with the cells as keys; an empty one if any lies beyond the edge, as
# then none of the calls has a use for the others. Numbers below 0 are never
# handed in.
def cells_at(pairs):
    cells = {}
    for x, y in pairs:
        if x >= SIDE or y >= SIDE:
            return {}
        cells[place(x, y)] = True
    return cells
