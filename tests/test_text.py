"""text: the text of the house that cells are, held against the words read plainly."""

import itertools
import unittest

from roofplans.plans import cells, facts, judge, text
from tests.helper import (
    ALL_HOUSES,
    HOUSE_257,
    HOUSES,
    RING,
    courtyards,
    flat,
    is_house,
    mixed,
    plain_cells,
    plain_facts,
    plain_text,
    plan_of,
    rectangle,
    small_houses,
    snake,
    stairs,
    to_bytes,
)

MOST_PAIRS = 1024
ABOVE_63 = (64, 65, 100, 127, 128, 129, 191, 192, 255, 256, 257, 65536, 2**31, 2**32 - 1)


def told_every_way(house):
    """The cells in their order, backward, mixed, some of them or all told more than once."""
    pairs = sorted(house)
    yield pairs
    yield pairs[::-1]
    yield sorted(house, key=lambda cell: (cell[1], cell[0]))
    yield mixed(pairs, 7)
    yield [pairs[0]] + pairs
    yield pairs + [pairs[-1]] * 2
    yield [cell for cell in pairs for time in range(2)]
    yield pairs + pairs[::-1]
    yield mixed(pairs * (MOST_PAIRS // len(pairs)), 8)
    yield (pairs * MOST_PAIRS)[:MOST_PAIRS]


class HousesOfCells(unittest.TestCase):
    def test_in_any_order_and_told_again(self):
        for house in ALL_HOUSES:
            answer = [0] + plan_of(house)
            for pairs in told_every_way(house):
                self.assertLessEqual(len(pairs), MOST_PAIRS)
                self.assertEqual(set(pairs), house)
                self.assertEqual(text(flat(pairs)), answer)

    def test_the_other_calls_tell_these_very_cells(self):
        for house in ALL_HOUSES + list(small_houses(3, 3).values()):
            answer = text(flat(mixed(house, 3)))
            self.assertEqual(answer[0], 0)
            self.assertEqual(judge(answer[1:]), [1, len(house)])
            self.assertEqual(facts(answer[1:]), plain_facts(house))
            self.assertEqual(cells(answer[1:]), plain_cells(house))

    def test_text_of_what_cells_tells_is_the_text_again(self):
        for house in ALL_HOUSES:
            t = plan_of(house)
            self.assertEqual(text(cells(t)[1:]), [0] + t)

    def test_no_two_houses_have_the_same_text(self):
        houses = small_houses(4, 3).values()
        self.assertEqual(len({tuple(text(flat(house))) for house in houses}), len(houses))

    def test_one_cell_anywhere(self):
        for x, y in itertools.product(range(64), repeat=2):
            words = f"{x},{y} {x + 1},{y} {x + 1},{y + 1} {x},{y + 1}\n"
            self.assertEqual(text([x, y]), [0] + to_bytes(words))

    def test_written_out(self):
        self.assertEqual(text(flat(courtyards(1, 1))), [0] + to_bytes(RING))
        self.assertEqual(text([9, 9, 10, 9]), [0] + to_bytes("9,9 11,9 11,10 9,10\n"))
        self.assertEqual(text([63, 0, 63, 1]), [0] + to_bytes("63,0 64,0 64,2 63,2\n"))
        self.assertEqual(text([0, 63]), [0] + to_bytes("0,63 1,63 1,64 0,64\n"))

    def test_256_cells(self):
        houses = [house for house in HOUSES.values() if len(house) == 256]
        self.assertGreater(len(houses), 6)
        for house in houses:
            self.assertEqual(text(flat(mixed(house, 1))), [0] + plan_of(house))
            self.assertEqual(text(flat(mixed(house, 2)) * 4), [0] + plan_of(house))


class AnyCells(unittest.TestCase):
    def test_all_cells_of_a_small_ground(self):
        ground = sorted(rectangle(0, 0, 4, 3))
        for number in range(2 ** len(ground)):
            pairs = [cell for k, cell in enumerate(ground) if number >> k & 1]
            self.assertEqual(text(flat(pairs)), plain_text(pairs), pairs)

    def test_all_cells_of_the_far_corner(self):
        ground = sorted(rectangle(61, 61, 3, 3))
        for number in range(2 ** len(ground)):
            pairs = [cell for k, cell in enumerate(ground) if number >> k & 1]
            self.assertEqual(text(flat(pairs)), plain_text(pairs), pairs)

    def test_a_cell_more_or_less(self):
        for house in ALL_HOUSES:
            for cell in mixed(house, 5)[:4]:
                self.as_the_words_say(house - {cell})
            for cell in mixed(rectangle(0, 0, 64, 64) - house, 6)[:2]:
                self.as_the_words_say(house | {cell})
            beside = {(x + 1, y) for x, y in house} - house
            for cell in mixed(beside, 7)[:4]:
                self.as_the_words_say(house | {cell})

    def as_the_words_say(self, told):
        self.assertEqual(text(flat(told)), plain_text(told))


class NoHouses(unittest.TestCase):
    def refused(self, told):
        self.assertEqual(text(flat(told)), [-2])

    def test_no_cells(self):
        self.assertEqual(text([]), [-2])

    def test_numbers_above_63(self):
        for number in ABOVE_63:
            self.refused([(number, 0)])
            self.refused([(0, number)])
            self.refused([(number, number)])
            self.refused([(number, 63)])
            self.refused([(63, number)])

    def test_numbers_above_63_beside_a_house(self):
        house = sorted(HOUSES["the document's example"])
        for number in ABOVE_63:
            for cell in [(number, 0), (number, 1), (0, number), (3, number), (number, number)]:
                for k in (0, 5, len(house)):
                    self.refused(house[:k] + [cell] + house[k:])

    def test_numbers_above_63_in_the_place_of_a_cell(self):
        self.refused([(62, 0), (63, 0), (64, 0)])
        self.refused([(0, 62), (0, 63), (0, 64)])
        self.refused([(63, 63), (64, 63)])
        self.refused([(63, 63), (63, 64)])
        for number in ABOVE_63:
            self.refused([(number - 1, 4), (number, 4)])
            self.refused([(4, number - 1), (4, number)])

    def test_cells_at_the_two_edges_are_not_beside_each_other(self):
        self.refused([(63, 0), (0, 1)])
        self.refused([(0, 0), (63, 0)])
        self.refused([(0, 0), (0, 63)])
        self.refused([(63, 5), (0, 5)])

    def test_more_than_256_cells(self):
        self.refused(HOUSE_257)
        self.refused(snake(257))
        self.refused(stairs(257))
        self.refused(rectangle(0, 0, 17, 16))
        self.refused(rectangle(0, 0, 32, 32))
        self.refused(rectangle(0, 48, 64, 16))
        self.refused(sorted(HOUSE_257) * 3)

    def test_parts_without_a_way_between(self):
        self.refused([(0, 0), (2, 0)])
        self.refused([(0, 0), (0, 2)])
        self.refused([(0, 0), (40, 50)])
        self.refused([(0, 0), (2, 1)])
        self.refused(rectangle(0, 0, 3, 3) | rectangle(4, 0, 3, 3))
        self.refused(rectangle(0, 0, 3, 3) | rectangle(0, 4, 3, 3))
        self.refused(courtyards(1, 1) | {(5, 5)})
        self.refused(rectangle(0, 0, 5, 5) - rectangle(1, 1, 3, 3) | {(2, 2)})
        self.refused({(x, y) for x in range(0, 64, 2) for y in range(0, 16, 2)})

    def test_cells_that_meet_in_a_point_alone(self):
        self.refused([(0, 0), (1, 1)])
        self.refused([(1, 0), (0, 1)])
        self.refused([(62, 62), (63, 63)])
        self.refused([(63, 62), (62, 63)])

    def test_a_way_leads_but_cells_meet_in_a_point_alone(self):
        around = rectangle(0, 0, 3, 3)
        for gap in [(1, 1), (2, 2)], [(1, 1), (0, 2)], [(1, 1), (2, 0)], [(1, 1), (0, 0)]:
            self.refused(around - set(gap))
        courts = rectangle(0, 0, 4, 4)
        self.refused(courts - {(1, 1), (2, 2)})
        self.refused(courts - {(1, 2), (2, 1)})
        self.assertTrue(is_house(courts - {(1, 1), (2, 2), (1, 2)}))


if __name__ == "__main__":
    unittest.main()
