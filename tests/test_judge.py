"""judge: houses' texts, wrong shapes, and right shapes that are no house's."""

import itertools
import unittest

from roofplans.plans import judge
from tests.helper import (
    EXAMPLE,
    HOUSE_257,
    HOUSES,
    NO_HOUSES,
    RING,
    UNIT,
    WRONG_SHAPES,
    first_wrong,
    hangs_together,
    has_right_shape,
    line_of,
    meets_in_point_alone,
    plain_judge,
    rows_of,
    small_houses,
    snake,
    stairs,
    text_of,
    to_bytes,
)

SEVERAL_DIGITS = "9,10 11,10 11,64 9,64\n"
TRIED_BYTES = "\n ,0169a/:\x00\xff"


class Shapes(unittest.TestCase):
    def test_wrong_shapes_written_out(self):
        for words, wrong in WRONG_SHAPES:
            with self.subTest(words=words):
                self.assertEqual(judge(to_bytes(words)), [0, 1, wrong])

    def test_every_single_byte(self):
        for byte in range(256):
            wrong = 1 if byte in b"0123456789" else 0
            self.assertEqual(judge([byte]), [0, 1, wrong])

    def test_numbers_up_to_64_alone(self):
        for number in range(130):
            with self.subTest(number=number):
                words = f"0,0 {number},0"
                wrong = len(words)
                if number > 64:
                    wrong = 5 if number < 100 else 6
                self.assertEqual(judge(to_bytes(words)), [0, 1, wrong])

    def test_numbers_up_to_64_northward(self):
        for number in range(100):
            words = f"0,0 0,{number} 0,0 0,0\n"
            expected = [0, 2, 0] if number <= 64 else [0, 1, 7]
            self.assertEqual(judge(to_bytes(words)), expected)

    def test_ended_early(self):
        for words in (EXAMPLE, RING, SEVERAL_DIGITS):
            for length in range(len(words)):
                cut = words[:length]
                if not has_right_shape(cut):
                    self.assertEqual(judge(to_bytes(cut)), [0, 1, length])

    def test_three_corners_are_too_few_in_every_line(self):
        for count in (1, 2, 3):
            for ahead in ("", UNIT, RING):
                words = ahead + " ".join(["1,1"] * count)
                self.assertEqual(judge(to_bytes(words + "\n")), [0, 1, len(words)])

    def test_other_byte_at_each_place(self):
        for words in (UNIT, RING, SEVERAL_DIGITS):
            for p, byte in itertools.product(range(len(words)), TRIED_BYTES):
                self.judged_as_the_words_say(words[:p] + byte + words[p + 1 :])

    def test_one_byte_more_at_each_place(self):
        for words in (UNIT, RING, SEVERAL_DIGITS):
            for p, byte in itertools.product(range(len(words) + 1), TRIED_BYTES):
                self.judged_as_the_words_say(words[:p] + byte + words[p:])

    def test_one_byte_less_at_each_place(self):
        for words in (UNIT, EXAMPLE, RING, SEVERAL_DIGITS):
            for p in range(len(words)):
                self.judged_as_the_words_say(words[:p] + words[p + 1 :])

    def test_every_byte_at_each_place(self):
        for p in range(len(UNIT)):
            for byte in range(256):
                self.judged_as_the_words_say(UNIT[:p] + chr(byte) + UNIT[p + 1 :])

    def test_all_short_texts(self):
        for length in range(6):
            for signs in itertools.product("06, \n", repeat=length):
                words = "".join(signs)
                self.assertEqual(judge(to_bytes(words)), [0, 1, first_wrong(words)], words)

    def judged_as_the_words_say(self, words):
        self.assertEqual(judge(to_bytes(words)), plain_judge(words), words)


class NoHouses(unittest.TestCase):
    def test_right_shapes_written_out(self):
        for name, words in NO_HOUSES.items():
            with self.subTest(name):
                self.assertTrue(has_right_shape(words))
                self.assertEqual(judge(to_bytes(words)), [0, 2, 0])

    def test_257_cells_are_one_too_many_and_nothing_else(self):
        for cells in (HOUSE_257, snake(257), stairs(257)):
            self.assertEqual(len(cells), 257)
            self.assertTrue(hangs_together(cells) and not meets_in_point_alone(cells))
            self.assertEqual(judge(to_bytes(text_of(cells))), [0, 2, 0])

    def test_each_line_of_a_house_walked_the_wrong_way(self):
        for name, rows in self.rows_of_houses():
            for k, row in enumerate(rows):
                backward = [row[0]] + row[:0:-1]
                self.no_house(rows[:k] + [backward] + rows[k + 1 :], name)

    def test_each_line_begun_at_another_corner(self):
        for name, rows in self.rows_of_houses():
            for k, row in enumerate(rows):
                for first in {1, 2, len(row) // 2, len(row) - 1}:
                    self.no_house(rows[:k] + [row[first:] + row[:first]] + rows[k + 1 :], name)

    def test_neighbouring_lines_changed(self):
        for name, rows in self.rows_of_houses():
            for k in range(len(rows) - 1):
                self.no_house(rows[:k] + [rows[k + 1], rows[k]] + rows[k + 2 :], name)

    def test_lines_told_again(self):
        for name, rows in self.rows_of_houses():
            for k in range(len(rows)):
                self.no_house(rows[: k + 1] + rows[k:], name)
                self.no_house(rows[: k + 1] + [rows[k]] + rows[k:], name)

    def test_outer_walk_left_out(self):
        for name, rows in self.rows_of_houses():
            if len(rows) > 1:
                self.no_house(rows[1:], name)

    def test_corner_told_twice(self):
        for name, rows in self.rows_of_houses():
            row = rows[0]
            for k in {0, len(row) // 2, len(row) - 1}:
                self.no_house([row[: k + 1] + row[k:]] + rows[1:], name)

    def rows_of_houses(self):
        return [(name, rows_of(text_of(house))) for name, house in HOUSES.items()]

    def no_house(self, rows, name):
        words = "".join(line_of(row) for row in rows)
        self.assertEqual(judge(to_bytes(words)), [0, 2, 0], name)


class Houses(unittest.TestCase):
    def test_houses_written_out(self):
        for name, house in HOUSES.items():
            with self.subTest(name):
                self.assertEqual(judge(to_bytes(text_of(house))), [1, len(house)])

    def test_one_cell_anywhere(self):
        for x, y in itertools.product((0, 1, 8, 9, 10, 31, 62, 63), repeat=2):
            self.assertEqual(judge(to_bytes(text_of({(x, y)}))), [1, 1])

    def test_all_lines_of_four_corners_on_a_small_ground(self):
        houses = small_houses(2, 2)
        points = list(itertools.product(range(3), repeat=2))
        for row in itertools.product(points, repeat=4):
            words = line_of(row)
            expected = [1, len(houses[words])] if words in houses else [0, 2, 0]
            self.assertEqual(judge(to_bytes(words)), expected, words)

    def test_all_pairs_of_small_lines(self):
        houses = small_houses(3, 3)
        lines = [line_of(row) for row in self.small_rows()]
        for words in ("".join(pair) for pair in itertools.product(lines, repeat=2)):
            expected = [1, len(houses[words])] if words in houses else [0, 2, 0]
            self.assertEqual(judge(to_bytes(words)), expected, words)

    def small_rows(self):
        """The walks of small houses and the same walked backward, at a few places."""
        rows = [rows_of(words)[0] for words in small_houses(2, 2)]
        rows += [rows_of("0,0 3,0 3,3 0,3\n")[0]]
        rows += [[(x + 1, y + 1) for x, y in row] for row in rows if row != rows[-1]]
        return rows + [[row[0]] + row[:0:-1] for row in rows]


if __name__ == "__main__":
    unittest.main()
