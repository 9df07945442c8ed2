"""height and depth: the roof over points and half-cells, held against the words read plainly."""

import unittest

from roofplans.plans import depth, height
from tests.helper import (
    ALL_HOUSES,
    EXAMPLE,
    HOUSES,
    RING,
    UNIT,
    WRONG_TEXTS,
    corners_of,
    grown,
    half_cells,
    neighbours,
    plain_depth,
    plain_height,
    plan_of,
    rectangle,
    shifted,
    small_houses,
    to_bytes,
)

ABOVE_128 = (129, 130, 255, 256, 257, 512, 65536, 2**31, 2**32 - 1)
ABOVE_127 = (128,) + ABOVE_128

# Looked at over the whole ground.
SWEPT = (
    "the document's example",
    "one cell, south-west",
    "one cell, north-east",
    "courtyard of one cell, north-east",
    "courtyards of many shapes",
    "square of 256, north-east",
    "spiral",
)


def about(house):
    """The points of the ground on the house or a foot from it, as numbers of half a foot."""
    points = {(i + a, j + b) for i, j in half_cells(house) for a in (-2, 0, 1, 3) for b in (-2, 0, 1, 3)}
    return sorted(point for point in points if 0 <= min(point) and max(point) <= 128)


def some_about(house):
    """As many of these as can be looked at in good time: of a large house not all."""
    return about(house)[:: 1 + len(house) // 40]


class Heights(unittest.TestCase):
    def as_the_words_say(self, house, points):
        t, halves = plan_of(house), half_cells(house)
        for x, y in points:
            told = height(x, y, t)
            if told != [plain_height(halves, x, y)]:
                self.fail(f"height ({x}, {y}) of {house}: {told}")

    def test_over_the_whole_ground(self):
        points = [(x, y) for x in range(129) for y in range(129)]
        for name in SWEPT:
            with self.subTest(name):
                self.as_the_words_say(HOUSES[name], points)

    def test_houses_of_many_shapes(self):
        for house in ALL_HOUSES:
            self.as_the_words_say(house, some_about(house))

    def test_all_small_houses(self):
        points = [(x, y) for x in range(8) for y in range(8)]
        for house in small_houses(3, 3).values():
            self.as_the_words_say(house, points)

    def test_small_houses_at_the_far_corner(self):
        points = [(x, y) for x in range(121, 129) for y in range(121, 129)]
        for house in small_houses(3, 3).values():
            self.as_the_words_say(shifted(house, 61, 61), points)

    def test_squares(self):
        for side in range(1, 17):
            t = plan_of(rectangle(3, 5, side, side))
            self.assertEqual(height(6 + side, 10 + side, t), [side])
            self.assertEqual(height(6, 10, t), [0])
            self.assertEqual(height(7, 11, t), [1])

    def test_on_the_walls_and_outside(self):
        ring = to_bytes(RING)
        for x, y in [(0, 0), (6, 0), (6, 6), (0, 6), (3, 0), (2, 2), (4, 4), (3, 3), (3, 2), (7, 3), (128, 128)]:
            self.assertEqual(height(x, y, ring), [0])
        for x, y in [(1, 1), (3, 1), (5, 5), (1, 3)]:
            self.assertEqual(height(x, y, ring), [1])

    def test_east_and_north_are_not_changed(self):
        t = plan_of(rectangle(0, 0, 6, 2))
        self.assertEqual(height(8, 2, t), [2])
        self.assertEqual(height(2, 8, t), [0])

    def test_an_inward_corner_counts(self):
        t = plan_of(rectangle(0, 0, 4, 4) - {(3, 3)})
        self.assertEqual(height(4, 4, t), [2])
        self.assertEqual(height(3, 3, t), [3])

    def test_half_a_foot_apart_they_differ_by_1_at_most(self):
        for house in [grown(seed, 60, 9, 9) for seed in range(6)] + [HOUSES["72 courtyards"], rectangle(9, 9, 9, 9)]:
            t = plan_of(house)
            heights = {point: height(*point, t)[0] for point in about(house)}
            for point in heights:
                for beside in neighbours(point):
                    self.assertLessEqual(abs(heights[point] - heights.get(beside, heights[point])), 1)


class Depths(unittest.TestCase):
    def as_the_words_say(self, house, places):
        t, halves = plan_of(house), half_cells(house)
        for i, j in places:
            expected = plain_depth(halves, i, j) if (i, j) in halves else -5
            told = depth(i, j, t)
            if told != [expected]:
                self.fail(f"depth ({i}, {j}) of {house}: {told}")

    def test_every_half_cell(self):
        for name in SWEPT:
            with self.subTest(name):
                self.as_the_words_say(HOUSES[name], sorted(half_cells(HOUSES[name])))

    def test_over_the_whole_ground(self):
        places = [(i, j) for i in range(128) for j in range(128)]
        for name in ("the document's example", "courtyard of one cell, north-east", "one cell, north-east"):
            self.as_the_words_say(HOUSES[name], places)

    def test_houses_of_many_shapes(self):
        for house in ALL_HOUSES:
            self.as_the_words_say(house, [place for place in some_about(house) if max(place) <= 127])

    def test_all_small_houses(self):
        places = [(i, j) for i in range(8) for j in range(8)]
        for house in small_houses(3, 3).values():
            self.as_the_words_say(house, places)

    def test_small_houses_at_the_far_corner(self):
        places = [(i, j) for i in range(121, 128) for j in range(121, 128)]
        for house in small_houses(3, 3).values():
            self.as_the_words_say(shifted(house, 61, 61), places)

    def test_outside(self):
        ring = to_bytes(RING)
        for i, j in [(2, 2), (3, 3), (2, 3), (6, 0), (0, 6), (6, 6), (127, 127), (0, 127), (127, 0)]:
            self.assertEqual(depth(i, j, ring), [-5])
        for i, j in [(0, 0), (5, 5), (1, 2), (4, 3)]:
            self.assertEqual(depth(i, j, ring), [0])

    def test_squares(self):
        for side in range(1, 17):
            t = plan_of(rectangle(3, 5, side, side))
            for i, j in [(5 + side, 9 + side), (6 + side, 10 + side), (6 + side, 9 + side)]:
                self.assertEqual(depth(i, j, t), [side - 1])
            self.assertEqual(depth(6, 10, t), [0])

    def test_heights_over_the_corners_are_k_or_k_and_1(self):
        for house in [grown(seed, 50, 9, 9) for seed in range(6)] + [HOUSES["72 courtyards"], rectangle(9, 9, 7, 7)]:
            t = plan_of(house)
            for i, j in sorted(half_cells(house))[:: 1 + len(house) // 60]:
                k = depth(i, j, t)[0]
                heights = [height(x, y, t)[0] for x, y in corners_of((i, j))]
                self.assertTrue(set(heights) <= {k, k + 1}, (house, i, j))


class Refusals(unittest.TestCase):
    def test_no_houses_text(self):
        for t in WRONG_TEXTS:
            for x, y in [(0, 0), (1, 1), (128, 0), (0, 128), (128, 128)]:
                self.assertEqual(height(x, y, t), [-1])
            for i, j in [(0, 0), (1, 1), (127, 0), (0, 127), (127, 127)]:
                self.assertEqual(depth(i, j, t), [-1])

    def test_bounds_of_height(self):
        for words in (EXAMPLE, RING, UNIT):
            for number in ABOVE_128:
                self.assertEqual(height(number, 0, to_bytes(words)), [-3])
                self.assertEqual(height(0, number, to_bytes(words)), [-3])
                self.assertEqual(height(number, number, to_bytes(words)), [-3])
            self.assertEqual(height(128, 128, to_bytes(words)), [0])

    def test_bounds_of_depth(self):
        for words in (EXAMPLE, RING, UNIT):
            for number in ABOVE_127:
                self.assertEqual(depth(number, 0, to_bytes(words)), [-3])
                self.assertEqual(depth(0, number, to_bytes(words)), [-3])
                self.assertEqual(depth(number, number, to_bytes(words)), [-3])
            self.assertEqual(depth(127, 127, to_bytes(words)), [-5])
        self.assertEqual(depth(127, 127, plan_of({(63, 63)})), [0])

    def test_bounds_are_looked_at_ahead_of_the_text(self):
        for t in WRONG_TEXTS:
            for number in ABOVE_128:
                self.assertEqual(height(number, 0, t), [-3])
                self.assertEqual(height(0, number, t), [-3])
            for number in ABOVE_127:
                self.assertEqual(depth(number, 0, t), [-3])
                self.assertEqual(depth(0, number, t), [-3])


if __name__ == "__main__":
    unittest.main()
