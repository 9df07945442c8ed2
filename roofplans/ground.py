"""How the cells and the points of the ground are numbered.

The cell or the point (x, y) is the one whole number y * ROW + x, so numbers
stand in the order that is asked for: by y, of equal ones by x.
"""

# Wider than the ground's 64 cells and 65 points: so a step across an edge
# leads to a number that no cell has, and edges need no care of their own.
ROW = 128


def place(x, y):
    return y * ROW + x


def eastward(spot):
    return spot % ROW


def northward(spot):
    return spot // ROW
