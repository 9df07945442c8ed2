"""join: what's in either house, in both, in the first alone, held against the words read plainly."""

import itertools
import unittest

from roofplans.plans import cells, join
from tests.helper import (
    ALL_HOUSES,
    EXAMPLE,
    HOUSES,
    NO_HOUSES,
    RING,
    UNIT,
    WRONG_TEXTS,
    courtyards,
    grown,
    pairs_in,
    plain_join,
    plan_of,
    rectangle,
    shifted,
    small_houses,
    to_bytes,
)

IN_EITHER, IN_BOTH, IN_FIRST_ALONE = range(3)
ABOVE_2 = (3, 4, 5, 7, 255, 256, 2**32 - 1)


class Joined(unittest.TestCase):
    def comes_out(self, expected, how, first, second):
        self.assertEqual(join(how, plan_of(first), plan_of(second)), [0] + plan_of(expected))

    def all_ways(self, first, second):
        for how in range(3):
            self.assertEqual(join(how, plan_of(first), plan_of(second)), plain_join(how, first, second))
            self.assertEqual(join(how, plan_of(second), plan_of(first)), plain_join(how, second, first))

    def test_all_small_houses_with_one_another(self):
        houses = list(small_houses(3, 2).values())
        for first, second in itertools.combinations(houses, 2):
            self.all_ways(first, second)

    def test_larger_small_houses(self):
        houses = list(small_houses(3, 3).values())
        for k, first in enumerate(houses):
            self.all_ways(first, houses[k * 7 % len(houses)])
            self.all_ways(first, shifted(houses[k * 11 % len(houses)], 1, 2))

    def test_houses_written_out(self):
        for first, second in itertools.combinations(HOUSES.values(), 2):
            self.all_ways(first, second)

    def test_grown_houses(self):
        for seed in range(40):
            self.all_ways(grown(seed, 40, 9, 9), grown(seed + 100, 50, 10, 8))
            self.all_ways(grown(seed, 100, 20, 12), grown(seed + 200, 3, 20, 12))

    def test_the_same_list_twice(self):
        for house in ALL_HOUSES:
            t = plan_of(house)
            self.assertEqual(join(IN_EITHER, t, t), [0] + t)
            self.assertEqual(join(IN_BOTH, t, t), [0] + t)
            self.assertEqual(join(IN_FIRST_ALONE, t, t), [-2])

    def test_order_at_first_alone(self):
        first, second = rectangle(0, 0, 4, 1), rectangle(3, 0, 4, 1)
        self.comes_out(rectangle(0, 0, 3, 1), IN_FIRST_ALONE, first, second)
        self.comes_out(rectangle(4, 0, 3, 1), IN_FIRST_ALONE, second, first)
        self.comes_out(rectangle(0, 0, 7, 1), IN_EITHER, first, second)
        self.comes_out(rectangle(0, 0, 7, 1), IN_EITHER, second, first)
        self.comes_out({(3, 0)}, IN_BOTH, first, second)
        self.comes_out({(3, 0)}, IN_BOTH, second, first)

    def test_a_courtyard_cut_and_filled(self):
        whole, middle, ring = rectangle(7, 8, 3, 3), {(8, 9)}, shifted(courtyards(1, 1), 7, 8)
        self.comes_out(ring, IN_FIRST_ALONE, whole, middle)
        self.comes_out(whole, IN_EITHER, ring, middle)
        self.comes_out(middle, IN_FIRST_ALONE, whole, ring)

    def test_256_cells_come_out(self):
        self.comes_out(rectangle(0, 0, 64, 4), IN_EITHER, rectangle(0, 0, 64, 3), rectangle(0, 3, 64, 1))
        self.comes_out(rectangle(0, 0, 64, 4), IN_EITHER, rectangle(0, 0, 64, 4), rectangle(0, 1, 64, 3))

    def test_what_is_told_is_in_either_in_both_in_the_first_alone(self):
        for seed in range(20):
            first, second = grown(seed, 60, 9, 9), grown(seed + 50, 60, 9, 9)
            for how, expected in enumerate([first | second, first & second, first - second]):
                answer = join(how, plan_of(first), plan_of(second))
                if answer != [-2]:
                    self.assertEqual(set(pairs_in(cells(answer[1:])[1:])), expected)


class NoHouseComesOut(unittest.TestCase):
    def refused(self, how, first, second):
        self.assertEqual(join(how, plan_of(first), plan_of(second)), [-2])

    def test_no_cell(self):
        self.refused(IN_BOTH, {(0, 0)}, {(1, 0)})
        self.refused(IN_BOTH, {(0, 0)}, {(63, 63)})
        self.refused(IN_BOTH, courtyards(1, 1), {(1, 1)})
        self.refused(IN_FIRST_ALONE, {(0, 0)}, {(0, 0)})
        self.refused(IN_FIRST_ALONE, {(0, 0)}, rectangle(0, 0, 2, 2))

    def test_parts(self):
        self.refused(IN_EITHER, {(0, 0)}, {(2, 0)})
        self.refused(IN_EITHER, {(63, 0)}, {(0, 1)})
        self.refused(IN_BOTH, rectangle(0, 0, 3, 3) - {(1, 0), (1, 1)}, rectangle(0, 0, 3, 1))
        self.refused(IN_FIRST_ALONE, rectangle(0, 0, 3, 1), {(1, 0)})
        self.refused(IN_FIRST_ALONE, rectangle(0, 0, 5, 5), courtyards(1, 1) | rectangle(0, 3, 5, 1) | {(3, 2)})

    def test_a_point_alone(self):
        self.refused(IN_EITHER, {(0, 0)}, {(1, 1)})
        self.refused(IN_EITHER, {(1, 0)}, {(0, 1)})
        self.refused(IN_FIRST_ALONE, rectangle(0, 0, 4, 4) - {(1, 1)}, {(2, 2)})
        self.refused(IN_FIRST_ALONE, rectangle(0, 0, 4, 4) - {(2, 1)}, {(1, 2)})
        self.refused(IN_BOTH, rectangle(0, 0, 3, 3) - {(1, 1)}, rectangle(0, 0, 3, 3) - {(2, 2)})

    def test_more_than_256_cells(self):
        square = HOUSES["square of 256"]
        self.refused(IN_EITHER, square, {(16, 0)})
        self.refused(IN_EITHER, {(16, 0)}, square)
        self.refused(IN_EITHER, square, shifted(square, 16, 0))
        self.refused(IN_EITHER, rectangle(0, 0, 64, 3), rectangle(0, 3, 13, 5))


class Refusals(unittest.TestCase):
    def test_a_text_is_no_houses(self):
        right = to_bytes(EXAMPLE)
        for wrong in WRONG_TEXTS:
            for how in range(3):
                self.assertEqual(join(how, wrong, right), [-1])
                self.assertEqual(join(how, right, wrong), [-1])
                self.assertEqual(join(how, wrong, wrong), [-1])
                self.assertEqual(join(how, wrong, to_bytes("65")), [-1])

    def test_how_is_out_of_its_bounds(self):
        for how in ABOVE_2:
            self.assertEqual(join(how, to_bytes(EXAMPLE), to_bytes(UNIT)), [-3])
            self.assertEqual(join(how, to_bytes(UNIT), to_bytes(RING)), [-3])

    def test_how_is_looked_at_ahead_of_the_texts(self):
        right = to_bytes(EXAMPLE)
        for how in ABOVE_2:
            for wrong in WRONG_TEXTS:
                self.assertEqual(join(how, wrong, right), [-3])
                self.assertEqual(join(how, right, wrong), [-3])
                self.assertEqual(join(how, wrong, wrong), [-3])

    def test_texts_are_looked_at_ahead_of_the_cells(self):
        parts = to_bytes(NO_HOUSES["parts without a way between"])
        for how in range(3):
            self.assertEqual(join(how, to_bytes(UNIT), parts), [-1])
            self.assertEqual(join(how, parts, to_bytes(UNIT)), [-1])


if __name__ == "__main__":
    unittest.main()
