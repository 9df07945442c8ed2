"""The document's examples, number by number."""

import unittest

from roofplans.plans import cells, depths, facts, height, highest, inset, join, judge, moved, space, text
from tests.helper import to_bytes

T = to_bytes("0,0 4,0 4,2 2,2 2,3 0,3\n")
IN_FIRST_ALONE = 2


class Examples(unittest.TestCase):
    def answers(self, call, words, *numbers):
        self.assertEqual(call(to_bytes(words)), list(numbers))

    def test_house_of_ten_cells(self):
        words = "0,0 4,0 4,2 2,2 2,3 0,3\n"
        self.answers(judge, words, 1, 10)
        self.answers(facts, words, 10, 1, 5, 1, 14, 4)
        self.answers(cells, words, 10, 0, 0, 1, 0, 2, 0, 3, 0, 0, 1, 1, 1, 2, 1, 3, 1, 0, 2, 1, 2)

    def test_heights(self):
        self.assertEqual(height(3, 2, T), [2])
        self.assertEqual(height(2, 4, T), [2])
        self.assertEqual(height(4, 4, T), [0])
        self.assertEqual(height(2, 3, T), [2])

    def test_highest(self):
        self.assertEqual(highest(T), [2, 2, 2])

    def test_depths(self):
        self.assertEqual(depths(T), [2, 24, 16])

    def test_insets(self):
        self.assertEqual(inset(0, T), [40, 1, 40, 23])
        self.assertEqual(inset(1, T), [16, 1, 16, 15])
        self.assertEqual(inset(2, T), [0, 0, 0, 0])

    def test_space(self):
        self.assertEqual(space(T), [832])
        self.assertEqual(space(to_bytes("0,0 1,0 1,1 0,1\n")), [32])

    def test_moved(self):
        self.assertEqual(moved(61, 0, T), [-4])
        self.assertEqual(moved(60, 61, T), [0] + to_bytes("60,61 64,61 64,63 62,63 62,64 60,64\n"))

    def test_house_of_ten_cells_at_the_edge(self):
        words = "60,61 64,61 64,63 62,63 62,64 60,64\n"
        self.answers(judge, words, 1, 10)
        self.answers(facts, words, 10, 1, 5, 1, 14, 4)

    def test_house_with_a_courtyard(self):
        words = "0,0 3,0 3,3 0,3\n1,1 1,2 2,2 2,1\n"
        self.answers(judge, words, 1, 8)
        self.answers(facts, words, 8, 2, 4, 4, 16, 3)
        self.answers(cells, words, 8, 0, 0, 1, 0, 2, 0, 0, 1, 2, 1, 0, 2, 1, 2, 2, 2)

    def test_last_cell_of_the_ground(self):
        words = "63,63 64,63 64,64 63,64\n"
        self.answers(judge, words, 1, 1)
        self.answers(cells, words, 1, 63, 63)

    def test_house_less_its_corner(self):
        words = "1,0 2,0 2,2 0,2 0,1 1,1\n"
        self.answers(judge, words, 1, 3)
        self.answers(cells, words, 3, 1, 0, 0, 1, 1, 1)

    def test_cells_that_are_no_house(self):
        self.assertEqual(text([0, 0, 1, 1]), [-2])
        self.assertEqual(text([]), [-2])
        self.assertEqual(text([64, 0]), [-2])

    def test_text_of_the_last_cell(self):
        self.assertEqual(text([63, 63]), [0] + to_bytes("63,63 64,63 64,64 63,64\n"))

    def test_square_less_one_of_its_cells(self):
        square, cell = to_bytes("0,0 2,0 2,2 0,2\n"), to_bytes("0,0 1,0 1,1 0,1\n")
        left = to_bytes("1,0 2,0 2,2 0,2 0,1 1,1\n")
        self.assertEqual(join(IN_FIRST_ALONE, square, cell), [0] + left)
        self.assertEqual(join(IN_FIRST_ALONE, cell, square), [-2])

    def test_one_cell(self):
        self.answers(judge, "0,0 1,0 1,1 0,1\n", 1, 1)
        self.answers(facts, "0,0 1,0 1,1 0,1\n", 1, 1, 4, 0, 4, 1)
        self.answers(cells, "0,0 1,0 1,1 0,1\n", 1, 0, 0)

    def test_wrong_shapes(self):
        self.answers(judge, "0,0 1,0 1,1 0,1", 0, 1, 15)
        self.answers(judge, "0,00", 0, 1, 3)
        self.answers(judge, "65", 0, 1, 1)
        self.answers(judge, "0,0 1,0 1,1\n", 0, 1, 11)
        self.answers(judge, "", 0, 1, 0)

    def test_walked_the_wrong_way(self):
        self.answers(judge, "0,0 0,1 1,1 1,0\n", 0, 2, 0)

    def test_most_cells(self):
        self.answers(judge, "0,0 16,0 16,16 0,16\n", 1, 256)
        self.answers(judge, "0,0 17,0 17,16 0,16\n", 0, 2, 0)


if __name__ == "__main__":
    unittest.main()
