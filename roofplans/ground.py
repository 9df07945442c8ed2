"""How the cells and the points of the ground are numbered.

The cell or the point (x, y) is the one whole number y * ROW + x, so numbers
stand in the order that is asked for: by y, of equal ones by x.
"""

# Wider than the ground's 64 cells and 65 points: so a step across an edge
# leads to a number that no cell has, and edges need no care of their own.
ROW = 128

# How many cells the ground has each way.
SIDE = 64


def place(x, y):
    return y * ROW + x


def eastward(spot):
    return spot % ROW


def northward(spot):
    return spot // ROW


def pairs_of(cells):
    return [(eastward(cell), northward(cell)) for cell in sorted(cells)]


# A dict with the cells as keys; an empty one if any lies beyond the edge, as
# then none of the calls has a use for the others.
def cells_at(pairs):
    cells = {}
    for x, y in pairs:
        if x < 0 or x >= SIDE or y < 0 or y >= SIDE:
            return {}
        cells[place(x, y)] = True
    return cells
