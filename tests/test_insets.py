"""highest, inset and depths: the roof as a whole, held against the words read plainly."""

import unittest

from roofplans.plans import depth, depths, height, highest, inset, turned
from tests.helper import (
    ALL_HOUSES,
    HOUSES,
    WRONG_TEXTS,
    depth_by_half,
    grown,
    half_cells,
    meets_in_point_alone,
    parts_of,
    plain_depths,
    plain_height,
    plain_highest,
    plain_inset,
    plan_of,
    rectangle,
    shifted,
    small_houses,
)

NOTHING = [0, 0, 0, 0]
FAR = (16, 17, 127, 128, 129, 65536, 2**31, 2**32 - 1)


class Highest(unittest.TestCase):
    def test_houses_of_many_shapes(self):
        for house in ALL_HOUSES:
            self.assertEqual(highest(plan_of(house)), plain_highest(half_cells(house)))

    def test_all_small_houses(self):
        for house in small_houses(3, 3).values():
            halves = half_cells(house)
            heights = [(-plain_height(halves, x, y), y, x) for x in range(7) for y in range(7)]
            greatest, y, x = min(heights)
            self.assertEqual(highest(plan_of(house)), [-greatest, x, y])
            self.assertEqual(highest(plan_of(shifted(house, 61, 61))), [-greatest, x + 122, y + 122])

    def test_the_height_over_the_point_that_is_told(self):
        for house in ALL_HOUSES:
            t = plan_of(house)
            greatest, x, y = highest(t)
            self.assertEqual(height(x, y, t), [greatest])

    def test_held_against_height_at_every_point(self):
        t = plan_of(HOUSES["three rooms alike and a smaller one"])
        heights = [(-height(x, y, t)[0], y, x) for x in range(129) for y in range(129)]
        greatest, y, x = min(heights)
        self.assertEqual(highest(t), [-greatest, x, y])

    def test_the_least_y_of_these_the_least_x(self):
        self.assertEqual(highest(plan_of(rectangle(0, 0, 8, 2))), [2, 2, 2])
        self.assertEqual(highest(plan_of(rectangle(0, 0, 2, 8))), [2, 2, 2])
        self.assertEqual(highest(plan_of({(1, 0), (1, 1), (0, 1)})), [1, 3, 1])
        self.assertEqual(highest(plan_of(rectangle(4, 0, 2, 2) | rectangle(2, 1, 2, 2))), [2, 10, 2])
        self.assertEqual(highest(plan_of(rectangle(0, 1, 2, 2) | rectangle(2, 0, 2, 2))), [2, 6, 2])
        self.assertEqual(highest(plan_of(rectangle(0, 0, 2, 2) | rectangle(2, 1, 2, 2))), [2, 2, 2])

    def test_one_cell_and_a_square(self):
        self.assertEqual(highest(plan_of({(0, 0)})), [1, 1, 1])
        self.assertEqual(highest(plan_of({(63, 0)})), [1, 127, 1])
        self.assertEqual(highest(plan_of({(63, 63)})), [1, 127, 127])
        self.assertEqual(highest(plan_of(HOUSES["square of 256"])), [16, 16, 16])
        self.assertEqual(highest(plan_of(HOUSES["square of 256, north-east"])), [16, 112, 112])

    def test_a_square_of_odd_side(self):
        for side in range(1, 17):
            self.assertEqual(highest(plan_of(rectangle(3, 8, side, side))), [side, 6 + side, 16 + side])


class Insets(unittest.TestCase):
    def every_k(self, house):
        t, deep = plan_of(house), depth_by_half(half_cells(house))
        for k in range(max(deep.values()) + 3):
            self.assertEqual(inset(k, t), plain_inset(k, deep), (k, house))

    def test_houses_of_many_shapes(self):
        for house in ALL_HOUSES:
            self.every_k(house)

    def test_all_small_houses(self):
        for house in small_houses(4, 3).values():
            self.every_k(house)

    def test_small_houses_at_the_far_corner(self):
        for house in small_houses(3, 3).values():
            self.every_k(shifted(house, 61, 61))

    def test_grown_houses(self):
        for seed in range(100, 130):
            self.every_k(grown(seed, 80, 11, 11))

    def test_far_in(self):
        for house in ALL_HOUSES:
            for k in FAR:
                self.assertEqual(inset(k, plan_of(house)), NOTHING)

    def test_squares(self):
        for side in range(1, 17):
            t = plan_of(rectangle(0, 0, side, side))
            for k in range(side):
                wide = 2 * (side - k)
                self.assertEqual(inset(k, t), [wide * wide, 1, wide * wide, 4 * wide - 4])
            self.assertEqual(inset(side, t), NOTHING)

    def test_several_pieces(self):
        t = plan_of(HOUSES["three rooms alike and a smaller one"])
        self.assertEqual(inset(0, t)[1:3], [1, 4 * len(HOUSES["three rooms alike and a smaller one"])])
        self.assertEqual(inset(1, t)[1:3], [4, 36])
        self.assertEqual(inset(2, t)[:3], [48, 3, 16])
        self.assertEqual(inset(3, t)[:3], [12, 3, 4])
        self.assertEqual(inset(4, t), NOTHING)

    def test_pieces_that_meet_in_a_point_alone_are_two(self):
        for corner, other in [((0, 0), (1, 1)), ((1, 0), (0, 1))]:
            t = plan_of(rectangle(*corner, 2, 2) | rectangle(*other, 2, 2))
            self.assertEqual(inset(0, t)[:3], [28, 1, 28])
            self.assertEqual(inset(1, t), [8, 2, 4, 8])
            self.assertEqual(inset(2, t), NOTHING)

    def test_the_largest_piece_comes_first_or_last(self):
        small, large = rectangle(0, 0, 2, 2), rectangle(3, 0, 3, 3)
        self.assertEqual(inset(1, plan_of(small | {(2, 0)} | large))[:3], [20, 2, 16])
        small, large = rectangle(4, 0, 2, 2), rectangle(0, 0, 3, 3)
        self.assertEqual(inset(1, plan_of(small | {(3, 0)} | large))[:3], [20, 2, 16])

    def test_a_rim_at_the_grounds_edge(self):
        for x, y in [(0, 0), (60, 0), (0, 60), (60, 60)]:
            self.assertEqual(inset(0, plan_of(rectangle(x, y, 4, 4))), [64, 1, 64, 28])
        self.assertEqual(inset(0, plan_of(HOUSES["four rows of 64"])), [1024, 1, 1024, 2 * 128 + 2 * 6])

    def test_a_rim_is_told_by_sides_alone(self):
        ring = HOUSES["courtyard of one cell"]
        self.assertEqual(inset(0, plan_of(ring)), [32, 1, 32, 28])
        self.assertEqual(inset(0, plan_of(rectangle(0, 0, 3, 3) - {(2, 2)})), [32, 1, 32, 19])

    def test_in_by_a_and_b_is_in_by_b_of_in_by_a(self):
        tried = 0
        for house in ALL_HOUSES + [grown(seed, 150, 14, 14) for seed in range(200, 220)]:
            parts = self.houses_in_by_2(house)
            for b in range(8) if parts else []:
                count, pieces, largest, rim = zip(*[inset(b, plan_of(part)) for part in parts])
                self.assertEqual(inset(2 + b, plan_of(house)), [sum(count), sum(pieces), max(largest), sum(rim)])
                tried += 1
        self.assertGreater(tried, 200)

    def houses_in_by_2(self, house):
        """What lies in by two halves, a foot, is made of whole cells: its parts, if they are all houses."""
        inner = {(x, y) for x, y in house if rectangle(x - 1, y - 1, 3, 3) <= house}
        return [] if meets_in_point_alone(inner) else parts_of(inner)


class Depths(unittest.TestCase):
    def test_houses_of_many_shapes(self):
        for house in ALL_HOUSES:
            told = depths(plan_of(house))
            self.assertEqual(told, plain_depths(depth_by_half(half_cells(house))))
            self.assertEqual(told[0], len(told) - 1)
            self.assertEqual(sum(told[1:]), 4 * len(house))
            self.assertNotIn(0, told)

    def test_all_small_houses(self):
        for house in small_houses(4, 3).values():
            self.assertEqual(depths(plan_of(house)), plain_depths(depth_by_half(half_cells(house))))

    def test_held_against_depth_at_every_half_cell(self):
        for name in ("three rooms alike and a smaller one", "a large courtyard", "squares that overlap in a cell"):
            house = HOUSES[name]
            t = plan_of(house)
            found = [depth(i, j, t)[0] for i, j in half_cells(house)]
            self.assertEqual(depths(t)[1:], [found.count(k) for k in range(max(found) + 1)])

    def test_the_same_turned_every_way(self):
        for house in ALL_HOUSES:
            if len(house) < 200:
                t = plan_of(house)
                for k in range(8):
                    self.assertEqual(depths(turned(k, t)[1:]), depths(t))

    def test_held_against_inset(self):
        for house in ALL_HOUSES:
            t = plan_of(house)
            counts = depths(t)[1:]
            for k in range(len(counts) + 1):
                self.assertEqual(inset(k, t)[0], sum(counts[k:]))

    def test_greatest_depth_is_one_less_than_the_greatest_height(self):
        for house in ALL_HOUSES:
            self.assertEqual(depths(plan_of(house))[0], highest(plan_of(house))[0])

    def test_squares(self):
        for side in range(1, 17):
            counts = [4 * (2 * side - 2 * k) - 4 for k in range(side)]
            self.assertEqual(depths(plan_of(rectangle(7, 7, side, side))), [side] + counts)


class Refusals(unittest.TestCase):
    def test_no_houses_text(self):
        for t in WRONG_TEXTS:
            self.assertEqual(highest(t), [-1])
            self.assertEqual(depths(t), [-1])
            for k in (0, 1, 5) + FAR:
                self.assertEqual(inset(k, t), [-1])


if __name__ == "__main__":
    unittest.main()
