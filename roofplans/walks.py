"""The walks along a house's walls. A house is a dict with its cells as keys."""

from roofplans.ground import ROW


# Each foot of wall is kept by the point where it begins, as the step to its
# end with the house on the left hand. As no two cells of a house meet in a
# point alone, no two feet of wall begin at one point.
def wall_steps(house):
    steps = {}
    for cell in house:
        if cell - ROW not in house:
            steps[cell] = 1
        if cell + 1 not in house:
            steps[cell + 1] = ROW
        if cell + ROW not in house:
            steps[cell + ROW + 1] = -1
        if cell - 1 not in house:
            steps[cell + ROW] = -ROW
    return steps


def points_of_walk(steps, first):
    points = [first]
    point = first + steps[first]
    while point != first:
        points.append(point)
        point = point + steps[point]
    return points


# The point ahead of the first is the last, which points[-1] is.
def corners_of_walk(steps, points):
    return [point for k, point in enumerate(points) if steps[points[k - 1]] != steps[point]]


# Going through the points from the least on meets each walk first at its
# least corner, and the walks in their order: nothing has to be turned round.
def walk_rows(house):
    steps = wall_steps(house)
    walked = {}
    rows = []
    for first in sorted(steps):
        if first not in walked:
            points = points_of_walk(steps, first)
            for point in points:
                walked[point] = True
            rows.append(corners_of_walk(steps, points))
    return rows


# The house being on the left hand, a walk turns left just where one cell of
# it lies at the corner, and right where three do.
def is_outward(house, corner):
    around = (corner, corner - 1, corner - ROW, corner - ROW - 1)
    return len([cell for cell in around if cell in house]) == 1


def count_outward(house, row):
    return len([corner for corner in row if is_outward(house, corner)])
