"""moved: a house brought to another place of the ground, held against the words read plainly."""

import itertools
import unittest

from roofplans.plans import cells, facts, moved
from tests.helper import (
    ALL_HOUSES,
    EXAMPLE,
    HOUSES,
    RING,
    WRONG_TEXTS,
    pairs_in,
    placed,
    plain_moved,
    plan_of,
    rectangle,
    shifted,
    small_houses,
    to_bytes,
)

FAR = (64, 65, 127, 128, 192, 255, 256, 2**31, 2**32 - 1)


def least(house):
    return min(x for x, y in house), min(y for x, y in house)


def last_place(house):
    """The greatest x and y that leave room for the whole house."""
    wide = max(x for x, y in house) - least(house)[0]
    high = max(y for x, y in house) - least(house)[1]
    return 63 - wide, 63 - high


class Moved(unittest.TestCase):
    def test_to_0_0(self):
        for house in ALL_HOUSES:
            self.assertEqual(moved(0, 0, plan_of(house)), [0] + plan_of(placed(house, 0, 0)))

    def test_to_where_it_lies(self):
        for house in ALL_HOUSES:
            x, y = least(house)
            self.assertEqual(moved(x, y, plan_of(house)), [0] + plan_of(house))

    def test_to_the_last_place_and_beyond(self):
        for house in ALL_HOUSES:
            t = plan_of(house)
            x, y = last_place(house)
            self.assertEqual(moved(x, y, t), [0] + plan_of(placed(house, x, y)))
            self.assertEqual(moved(x, 0, t), [0] + plan_of(placed(house, x, 0)))
            self.assertEqual(moved(0, y, t), [0] + plan_of(placed(house, 0, y)))
            self.assertEqual(moved(x + 1, y, t), [-4])
            self.assertEqual(moved(x, y + 1, t), [-4])
            self.assertEqual(moved(x + 1, y + 1, t), [-4])
            self.assertEqual(moved(x + 1, 0, t), [-4])
            self.assertEqual(moved(0, y + 1, t), [-4])

    def test_far_beyond(self):
        for house in (HOUSES["the document's example"], {(0, 0)}, HOUSES["a row over the whole ground"]):
            for number in FAR:
                self.assertEqual(moved(number, 0, plan_of(house)), [-4])
                self.assertEqual(moved(0, number, plan_of(house)), [-4])
                self.assertEqual(moved(number, number, plan_of(house)), [-4])

    def test_one_cell_to_everywhere(self):
        t = plan_of({(40, 7)})
        for x, y in itertools.product(range(66), repeat=2):
            self.assertEqual(moved(x, y, t), [0] + plan_of({(x, y)}) if x < 64 and y < 64 else [-4])

    def test_small_houses_to_many_places(self):
        for house in small_houses(3, 3).values():
            for x, y in [(0, 1), (9, 8), (61, 61), (61, 62), (62, 61), (63, 63)]:
                self.assertEqual(moved(x, y, plan_of(shifted(house, 5, 30))), plain_moved(x, y, house))

    def test_every_cell_moved_alike(self):
        for house in ALL_HOUSES:
            x, y = least(house)
            to_x, to_y = last_place(house)
            answer = moved(to_x, to_y, plan_of(house))
            self.assertEqual(answer[0], 0)
            told = pairs_in(cells(answer[1:])[1:])
            self.assertEqual(set(told), {(a - x + to_x, b - y + to_y) for a, b in house})
            self.assertEqual(facts(answer[1:]), facts(plan_of(house)))

    def test_courtyards(self):
        self.assertEqual(moved(8, 9, to_bytes(RING)), [0] + to_bytes("8,9 11,9 11,12 8,12\n9,10 9,11 10,11 10,10\n"))
        courts = HOUSES["courtyards of many shapes"]
        self.assertEqual(moved(50, 52, plan_of(courts)), [0] + plan_of(shifted(courts, 45, 45)))
        self.assertEqual(moved(50, 53, plan_of(courts)), [-4])

    def test_a_house_without_a_cell_at_its_least_x_and_y(self):
        house = rectangle(0, 0, 2, 2) - {(0, 0)}
        self.assertEqual(moved(10, 20, plan_of(house)), [0] + plan_of(shifted(house, 10, 20)))
        self.assertEqual(moved(0, 0, plan_of(shifted(house, 62, 62))), [0] + plan_of(house))


class Refusals(unittest.TestCase):
    def test_no_houses_text(self):
        for t in WRONG_TEXTS:
            self.assertEqual(moved(0, 0, t), [-1])

    def test_the_text_is_looked_at_ahead_of_the_edge(self):
        for t in WRONG_TEXTS:
            for number in (63,) + FAR:
                self.assertEqual(moved(number, 0, t), [-1])
                self.assertEqual(moved(0, number, t), [-1])
                self.assertEqual(moved(number, number, t), [-1])

    def test_there_are_no_other_bounds(self):
        self.assertEqual(moved(2**32 - 1, 2**32 - 1, to_bytes(EXAMPLE)), [-4])
        self.assertEqual(moved(60, 61, to_bytes(EXAMPLE))[0], 0)


if __name__ == "__main__":
    unittest.main()
