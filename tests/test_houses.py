"""facts and cells: at houses, held against the words read plainly; at all else, refused."""

import unittest

from roofplans.plans import cells, facts, judge
from tests.helper import (
    EXAMPLE,
    HOUSES,
    NO_HOUSES,
    RING,
    WRONG_SHAPES,
    is_house,
    pairs_in,
    plain_cells,
    plain_facts,
    plain_house,
    rows_of,
    shifted,
    sides_of,
    small_houses,
    text_of,
    to_bytes,
    turns,
    walls,
)


def feet_walked(words):
    """Every foot from a point to the next that the lines of a text tell, in the way it's walked."""
    feet = []
    for row in rows_of(words):
        for (x, y), (to_x, to_y) in sides_of(row):
            length = abs(to_x - x) + abs(to_y - y)
            dx, dy = (to_x - x) // length, (to_y - y) // length
            feet += [((x + k * dx, y + k * dy), (x + k * dx + dx, y + k * dy + dy)) for k in range(length)]
    return feet


class HousesTold(unittest.TestCase):
    def all_calls(self, house):
        t = to_bytes(text_of(house))
        self.assertEqual(judge(t), [1, len(house)])
        self.assertEqual(facts(t), plain_facts(house))
        self.assertEqual(cells(t), plain_cells(house))

    def test_houses_written_out(self):
        for name, house in HOUSES.items():
            with self.subTest(name):
                self.assertTrue(is_house(house))
                self.all_calls(house)

    def test_all_small_houses(self):
        for house in small_houses(4, 3).values():
            self.all_calls(house)

    def test_all_small_houses_at_the_far_corner(self):
        for house in small_houses(3, 3).values():
            self.all_calls(shifted(house, 61, 61))

    def test_small_houses_where_numbers_grow_longer(self):
        for house in small_houses(3, 3).values():
            self.all_calls(shifted(house, 8, 8))

    def test_no_two_texts_have_the_same_cells(self):
        seen = {tuple(cells(to_bytes(words))) for words in small_houses(3, 3)}
        self.assertEqual(len(seen), len(small_houses(3, 3)))

    def test_text_of_what_is_told_is_the_text_again(self):
        for house in HOUSES.values():
            words = text_of(house)
            told = cells(to_bytes(words))
            self.assertEqual(text_of(set(pairs_in(told[1:]))), words)


class Counts(unittest.TestCase):
    def test_corners_outward_less_inward(self):
        for house in list(HOUSES.values()) + list(small_houses(3, 3).values()):
            told = facts(to_bytes(text_of(house)))
            self.assertEqual(told[2] - told[3], 4 * (1 - (told[1] - 1)))

    def test_every_foot_of_wall_is_walked_once(self):
        for name, house in HOUSES.items():
            words = text_of(house)
            told = facts(to_bytes(words))
            self.assertEqual(sorted(feet_walked(words)), sorted(walls(house)), name)
            self.assertEqual(told[4], len(feet_walked(words)), name)
            self.assertEqual(told[1], words.count("\n"), name)
            self.assertEqual(told[2] + told[3], words.count(","), name)

    def test_outward_is_left_and_inward_is_right(self):
        for words in (EXAMPLE, RING):
            ways = [way for row in rows_of(words) for way in turns(row)]
            self.assertEqual(facts(to_bytes(words))[2:4], [ways.count(1), ways.count(-1)])

    def test_longest_row_is_not_broken(self):
        self.assertEqual(facts(to_bytes("0,0 2,0 2,1 3,1 3,0 6,0 6,2 0,2\n"))[5], 6)
        self.assertEqual(facts(to_bytes("0,0 1,0 1,3 4,3 4,0 6,0 6,4 0,4\n"))[5], 6)
        self.assertEqual(facts(to_bytes("0,0 3,0 3,9 0,9\n1,1 1,8 2,8 2,1\n"))[5], 3)
        self.assertEqual(facts(to_bytes("1,0 2,0 2,3 1,3\n"))[5], 1)
        self.assertEqual(facts(to_bytes("1,0 2,0 2,1 3,1 3,0 4,0 4,2 5,2 5,1 6,1 6,3 0,3 0,2 1,2\n"))[5], 6)
        self.assertEqual(facts(to_bytes("0,0 1,0 1,1 2,1 2,0 3,0 3,2 2,2 2,4 1,4 1,2 0,2\n"))[5], 3)


class Refusals(unittest.TestCase):
    def refused(self, words):
        self.assertEqual(judge(to_bytes(words))[0], 0, words)
        self.assertEqual(facts(to_bytes(words)), [-1], words)
        self.assertEqual(cells(to_bytes(words)), [-1], words)

    def test_wrong_shapes(self):
        for words, wrong in WRONG_SHAPES:
            self.refused(words)

    def test_right_shapes_that_are_no_house(self):
        for words in NO_HOUSES.values():
            self.refused(words)

    def test_house_with_something_behind_it(self):
        for behind in ("\n", " ", "0", "0,0 1,0 1,1\n", "\x00", "\xff"):
            self.refused(EXAMPLE + behind)
            self.refused(RING + behind)

    def test_either_a_house_or_refused_by_all_calls(self):
        for p in range(len(RING)):
            for sign in "01234567, \n":
                words = RING[:p] + sign + RING[p + 1 :]
                house = plain_house(words)
                if house is None:
                    self.refused(words)
                else:
                    self.assertEqual(facts(to_bytes(words)), plain_facts(house), words)
                    self.assertEqual(cells(to_bytes(words)), plain_cells(house), words)


if __name__ == "__main__":
    unittest.main()
