"""turned: quarter turns to the left, and a mirror ahead of them, held against the words read plainly."""

import unittest

from roofplans.plans import cells, facts, judge, turned
from tests.helper import (
    ALL_HOUSES,
    EXAMPLE,
    HOUSES,
    RING,
    UNIT,
    WRONG_TEXTS,
    pairs_in,
    placed,
    plain_facts,
    plan_of,
    shifted,
    small_houses,
    to_bytes,
    turned_cells,
)

ABOVE_7 = (8, 9, 11, 12, 15, 16, 255, 256, 2**32 - 1)

# Like an F that lies: no two of its eight turned and mirrored ones are alike.
UNLIKE = {(0, 0), (1, 0), (2, 0), (3, 0), (3, 1), (1, 1)}

UNLIKE_TURNED = (
    "0,0 4,0 4,2 3,2 3,1 2,1 2,2 1,2 1,1 0,1\n",
    "1,0 2,0 2,4 0,4 0,3 1,3 1,2 0,2 0,1 1,1\n",
    "0,0 1,0 1,1 2,1 2,0 3,0 3,1 4,1 4,2 0,2\n",
    "0,0 2,0 2,1 1,1 1,2 2,2 2,3 1,3 1,4 0,4\n",
    "0,0 4,0 4,1 3,1 3,2 2,2 2,1 1,1 1,2 0,2\n",
    "0,0 2,0 2,4 1,4 1,3 0,3 0,2 1,2 1,1 0,1\n",
    "1,0 2,0 2,1 3,1 3,0 4,0 4,2 0,2 0,1 1,1\n",
    "0,0 1,0 1,1 2,1 2,2 1,2 1,3 2,3 2,4 0,4\n",
)


class Turned(unittest.TestCase):
    def test_written_out(self):
        for k, words in enumerate(UNLIKE_TURNED):
            self.assertEqual(turned(k, plan_of(UNLIKE)), [0] + to_bytes(words), k)
            self.assertEqual(turned(k, plan_of(shifted(UNLIKE, 17, 9))), [0] + to_bytes(words), k)

    def test_east_becomes_north(self):
        self.assertEqual(turned(1, to_bytes("0,0 5,0 5,1 0,1\n")), [0] + to_bytes("0,0 1,0 1,5 0,5\n"))
        self.assertEqual(turned(1, to_bytes(EXAMPLE)), [0] + to_bytes("0,0 3,0 3,4 1,4 1,2 0,2\n"))
        self.assertEqual(turned(4, to_bytes(EXAMPLE)), [0] + to_bytes("0,0 4,0 4,3 2,3 2,2 0,2\n"))

    def test_every_turn_of_all_houses(self):
        for house in ALL_HOUSES + list(small_houses(3, 3).values()):
            for k in range(8):
                self.assertEqual(turned(k, plan_of(house)), [0] + plan_of(turned_cells(k, house)))

    def test_houses_far_from_0_0(self):
        for house in small_houses(3, 2).values():
            for k in range(8):
                for x, y in [(61, 62), (0, 62), (61, 0), (9, 10)]:
                    self.assertEqual(turned(k, plan_of(shifted(house, x, y))), [0] + plan_of(turned_cells(k, house)))

    def test_houses_like_their_turned_ones(self):
        for house in (HOUSES["square of 256"], HOUSES["courtyard of one cell"], {(0, 0)}):
            for k in range(8):
                self.assertEqual(turned(k, plan_of(house)), [0] + plan_of(house))
                self.assertEqual(turned(k, plan_of(shifted(house, 40, 30))), [0] + plan_of(house))

    def test_as_wide_and_as_high_as_the_ground(self):
        row, column = HOUSES["a row over the whole ground"], HOUSES["a row from south to north"]
        for k in range(8):
            expected = placed(row if k % 2 == 0 else column, 0, 0)
            self.assertEqual(turned(k, plan_of(row)), [0] + plan_of(expected))
        frame = HOUSES["around the whole ground"]
        for k in range(8):
            self.assertEqual(turned(k, plan_of(frame)), [0] + plan_of(frame))


class TurnedAgain(unittest.TestCase):
    def again(self, t, *turns):
        for k in turns:
            answer = turned(k, t)
            self.assertEqual(answer[0], 0)
            t = answer[1:]
        return t

    def test_as_it_was_but_for_where_it_lies(self):
        for house in ALL_HOUSES + [UNLIKE]:
            t, home = plan_of(house), plan_of(placed(house, 0, 0))
            self.assertEqual(self.again(t, 0), home)
            self.assertEqual(self.again(t, 1, 1, 1, 1), home)
            for k in range(4):
                self.assertEqual(self.again(t, k, (4 - k) % 4), home)
            for k in range(4, 8):
                self.assertEqual(self.again(t, k, k), home)

    def test_turns_add_up(self):
        for house in [UNLIKE] + list(small_houses(3, 2).values()):
            for a in range(4):
                for b in range(4):
                    self.assertEqual(self.again(plan_of(house), a, b), self.again(plan_of(house), (a + b) % 4))
                    self.assertEqual(self.again(plan_of(house), 4 + a, b), self.again(plan_of(house), 4 + (a + b) % 4))

    def test_facts_of_the_turned_house(self):
        for house in ALL_HOUSES:
            before = facts(plan_of(house))
            for k in range(8):
                t = turned(k, plan_of(house))[1:]
                self.assertEqual(judge(t), [1, len(house)])
                self.assertEqual(facts(t)[:5], before[:5])
                self.assertEqual(facts(t), plain_facts(turned_cells(k, house)))

    def test_its_least_x_and_its_least_y_are_0(self):
        for house in ALL_HOUSES:
            for k in range(8):
                told = pairs_in(cells(turned(k, plan_of(house))[1:])[1:])
                self.assertEqual((min(x for x, y in told), min(y for x, y in told)), (0, 0))


class Refusals(unittest.TestCase):
    def test_no_houses_text(self):
        for t in WRONG_TEXTS:
            for k in range(8):
                self.assertEqual(turned(k, t), [-1])

    def test_k_is_out_of_its_bounds(self):
        for k in ABOVE_7:
            for words in (EXAMPLE, RING, UNIT):
                self.assertEqual(turned(k, to_bytes(words)), [-3])

    def test_k_is_looked_at_ahead_of_the_text(self):
        for k in ABOVE_7:
            for t in WRONG_TEXTS:
                self.assertEqual(turned(k, t), [-3])


if __name__ == "__main__":
    unittest.main()
