"""space and holds, held against the words read plainly."""

import itertools
import unittest

from roofplans.plans import holds, space
from tests.helper import (
    ALL_HOUSES,
    EXAMPLE,
    HOUSES,
    NO_HOUSES,
    RING,
    UNIT,
    WRONG_TEXTS,
    courtyards,
    grown,
    half_cells,
    plain_space,
    plan_of,
    rectangle,
    shifted,
    small_houses,
    to_bytes,
)


class Space(unittest.TestCase):
    def test_houses_of_many_shapes(self):
        for house in ALL_HOUSES:
            self.assertEqual(space(plan_of(house)), [plain_space(half_cells(house))])

    def test_all_small_houses(self):
        for house in small_houses(4, 3).values():
            self.assertEqual(space(plan_of(house)), [plain_space(half_cells(house))])

    def test_small_houses_at_the_far_corner(self):
        for house in small_houses(3, 3).values():
            self.assertEqual(space(plan_of(shifted(house, 61, 61))), [plain_space(half_cells(house))])

    def test_grown_houses(self):
        for seed in range(300, 330):
            house = grown(seed, 90, 12, 12)
            self.assertEqual(space(plan_of(house)), [plain_space(half_cells(house))])

    def test_over_a_square_it_is_a_pyramid(self):
        for side in range(1, 17):
            base, top = 2 * side * 2 * side, side
            self.assertEqual(space(plan_of(rectangle(9, 40, side, side))), [24 * base * top // 3])

    def test_over_a_row_it_is_a_ridge_between_two_halves_of_a_pyramid(self):
        for length in range(1, 65):
            self.assertEqual(space(plan_of(rectangle(0, 63, length, 1))), [32 + 24 * 2 * (length - 1)])

    def test_wherever_it_lies(self):
        for x, y in [(0, 0), (60, 0), (0, 61), (60, 61), (9, 9)]:
            self.assertEqual(space(plan_of(shifted(HOUSES["the document's example"], x, y))), [832])


class Holds(unittest.TestCase):
    def both_ways(self, first, second):
        self.assertEqual(holds(plan_of(first), plan_of(second)), [int(second <= first)])
        self.assertEqual(holds(plan_of(second), plan_of(first)), [int(first <= second)])

    def test_itself(self):
        for house in ALL_HOUSES:
            t = plan_of(house)
            self.assertEqual(holds(t, t), [1])
            self.assertEqual(holds(t, list(t)), [1])

    def test_a_part_of_it(self):
        for seed in range(20):
            whole, part = grown(seed, 60, 10, 10), grown(seed, 1 + seed * 2, 10, 10)
            self.assertTrue(part < whole)
            self.assertEqual(holds(plan_of(whole), plan_of(part)), [1])
            self.assertEqual(holds(plan_of(part), plan_of(whole)), [0])

    def test_every_cell_of_it(self):
        for house in ALL_HOUSES:
            for cell in sorted(house)[:: 1 + len(house) // 5]:
                self.assertEqual(holds(plan_of(house), plan_of({cell})), [1])

    def test_cells_beside_it(self):
        for house in ALL_HOUSES:
            beside = {(x + 1, y) for x, y in house if x < 63} - house
            for cell in sorted(beside)[:: 1 + len(beside) // 5]:
                self.assertEqual(holds(plan_of(house), plan_of({cell})), [0])

    def test_overlapping(self):
        self.both_ways(rectangle(0, 0, 3, 3), rectangle(1, 1, 3, 3))
        self.both_ways(rectangle(0, 0, 9, 1), rectangle(4, 0, 1, 9))
        self.assertEqual(holds(plan_of(rectangle(0, 0, 3, 3)), plan_of(rectangle(1, 1, 3, 3))), [0])
        self.assertEqual(holds(plan_of(rectangle(0, 0, 9, 1)), plan_of(rectangle(8, 0, 2, 1))), [0])

    def test_apart(self):
        self.assertEqual(holds(plan_of({(0, 0)}), plan_of({(63, 63)})), [0])
        self.assertEqual(holds(plan_of(rectangle(0, 0, 16, 16)), plan_of({(16, 0)})), [0])
        self.assertEqual(holds(plan_of({(1, 0)}), plan_of({(0, 1)})), [0])

    def test_in_anothers_courtyard(self):
        self.assertEqual(holds(to_bytes(RING), plan_of({(1, 1)})), [0])
        self.assertEqual(holds(plan_of({(1, 1)}), to_bytes(RING)), [0])
        outer, inner = rectangle(0, 0, 7, 7) - rectangle(1, 1, 5, 5), rectangle(2, 2, 3, 3) - {(3, 3)}
        self.assertEqual(holds(plan_of(outer), plan_of(inner)), [0])
        self.assertEqual(holds(plan_of(rectangle(0, 0, 7, 7)), plan_of(inner)), [1])

    def test_a_courtyard_filled(self):
        self.assertEqual(holds(plan_of(rectangle(0, 0, 3, 3)), plan_of(courtyards(1, 1))), [1])
        self.assertEqual(holds(plan_of(courtyards(1, 1)), plan_of(rectangle(0, 0, 3, 3))), [0])

    def test_all_small_houses_with_one_another(self):
        for first, second in itertools.combinations(small_houses(3, 2).values(), 2):
            self.both_ways(first, second)

    def test_houses_of_many_shapes_with_one_another(self):
        for first, second in itertools.combinations(ALL_HOUSES, 2):
            if len(first) + len(second) < 150:
                self.both_ways(first, second)


class Refusals(unittest.TestCase):
    def test_space(self):
        for t in WRONG_TEXTS:
            self.assertEqual(space(t), [-1])

    def test_holds(self):
        for wrong in WRONG_TEXTS:
            for words in (EXAMPLE, RING, UNIT):
                self.assertEqual(holds(wrong, to_bytes(words)), [-1])
                self.assertEqual(holds(to_bytes(words), wrong), [-1])
            self.assertEqual(holds(wrong, wrong), [-1])
            self.assertEqual(holds(wrong, to_bytes(NO_HOUSES["walked the wrong way"])), [-1])


if __name__ == "__main__":
    unittest.main()
