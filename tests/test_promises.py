"""The document's seven promises, over houses of many shapes and all fourteen calls together."""

import unittest

from roofplans import plans
from roofplans.plans import (
    cells,
    depth,
    depths,
    facts,
    height,
    highest,
    holds,
    inset,
    join,
    judge,
    moved,
    space,
    text,
    turned,
)
from tests.helper import (
    ALL_HOUSES,
    EXAMPLE,
    HOUSES,
    RING,
    UNIT,
    WRONG_TEXTS,
    corners_of,
    grown,
    half_cells,
    neighbours,
    pairs_in,
    parts_of,
    plain_house,
    plain_judge,
    plan_of,
    rectangle,
    rows_of,
    shifted,
    sides_of,
    small_houses,
    to_bytes,
    walls,
)

SMALL = list(small_houses(3, 3).values())
RIGHT = to_bytes(EXAMPLE)

# Every call of a text that is no house's, with numbers none of which is refused ahead of it.
CALLS_OF_A_TEXT = (
    facts,
    cells,
    lambda t: join(0, t, RIGHT),
    lambda t: join(1, RIGHT, t),
    lambda t: join(2, t, t),
    lambda t: turned(0, t),
    lambda t: turned(7, t),
    lambda t: moved(0, 0, t),
    lambda t: moved(2**32 - 1, 64, t),
    lambda t: height(0, 0, t),
    lambda t: height(128, 128, t),
    lambda t: depth(0, 0, t),
    lambda t: depth(127, 127, t),
    highest,
    lambda t: inset(0, t),
    lambda t: inset(2**32 - 1, t),
    depths,
    space,
    lambda t: holds(t, RIGHT),
    lambda t: holds(RIGHT, t),
    lambda t: holds(t, t),
)

# What is refused ahead of the text.
CALLS_OUT_OF_BOUNDS = (
    lambda t: join(3, t, RIGHT),
    lambda t: join(2**32 - 1, RIGHT, t),
    lambda t: turned(8, t),
    lambda t: turned(2**32 - 1, t),
    lambda t: height(129, 0, t),
    lambda t: height(0, 2**32 - 1, t),
    lambda t: depth(128, 0, t),
    lambda t: depth(0, 2**32 - 1, t),
)


def told_cells(t):
    return set(pairs_in(cells(t)[1:]))


def courtyards_of(house):
    """What is outside, with a foot around the ground, falls into as many parts and one more."""
    return len(parts_of(rectangle(-1, -1, 66, 66) - house)) - 1


def all_points(house):
    return sorted({corner for half in half_cells(house) for corner in corners_of(half)})


def fault_texts():
    """Texts a byte away from a house's."""
    for words in (UNIT, RING, EXAMPLE):
        for p in range(len(words)):
            yield words[:p] + words[p + 1 :]
            for sign in "0125, \n":
                yield words[:p] + sign + words[p + 1 :]
                yield words[:p] + sign + words[p:]


class OneTextAHouse(unittest.TestCase):
    def test_text_of_what_cells_tells_is_the_text_again(self):
        for house in ALL_HOUSES + SMALL:
            t = plan_of(house)
            self.assertEqual(text(cells(t)[1:]), [0] + t)
            self.assertEqual(told_cells(t), house)
            self.assertEqual(judge(t), [1, len(house)])

    def test_no_two_texts_have_the_same_cells(self):
        texts = [plan_of(house) for house in SMALL]
        self.assertEqual(len({tuple(cells(t)) for t in texts}), len(texts))

    def test_a_text_that_is_answered_is_a_houses(self):
        for house in ALL_HOUSES:
            t = plan_of(house)
            for answer in (turned(5, t), moved(0, 0, t), join(0, t, t), text(cells(t)[1:])):
                self.assertEqual(judge(answer[1:]), [1, len(house)])
                self.assertEqual(text(cells(answer[1:])[1:]), answer)


class HouseOrFault(unittest.TestCase):
    def refused_by_all(self, t):
        for call in CALLS_OF_A_TEXT:
            self.assertEqual(call(t), [-1])

    def test_written_out(self):
        for t in WRONG_TEXTS:
            self.assertEqual(judge(t)[0], 0)
            self.refused_by_all(t)

    def test_a_refusal_told_ahead_is_due(self):
        for t in WRONG_TEXTS:
            for call in CALLS_OUT_OF_BOUNDS:
                self.assertEqual(call(t), [-3])

    def test_a_byte_away_from_a_house(self):
        for words in fault_texts():
            t = to_bytes(words)
            told = judge(t)
            self.assertEqual(told, plain_judge(words), words)
            if told[0] == 0:
                self.refused_by_all(t)
            else:
                self.assertEqual(told_cells(t), plain_house(words), words)

    def test_no_call_refuses_a_house_for_its_text(self):
        for house in ALL_HOUSES:
            for call in CALLS_OF_A_TEXT:
                self.assertNotEqual(call(plan_of(house)), [-1])


class CornersAndFeet(unittest.TestCase):
    def test_corners_outward_less_inward(self):
        for house in ALL_HOUSES + SMALL[::5]:
            told = facts(plan_of(house))
            self.assertEqual(told[2] - told[3], 4 * (1 - courtyards_of(house)))
            self.assertEqual(told[1], 1 + courtyards_of(house))

    def test_every_foot_of_wall_is_walked_along_once(self):
        for house in ALL_HOUSES + SMALL:
            answer = text([number for cell in sorted(house) for number in cell])
            sides = [side for row in rows_of(bytes(answer[1:]).decode()) for side in sides_of(row)]
            length = sum(abs(a - c) + abs(b - d) for (a, b), (c, d) in sides)
            self.assertEqual(length, len(walls(house)))
            self.assertEqual(facts(plan_of(house))[4], len(walls(house)))
            self.assertEqual(len({point for point, end in walls(house)}), length)


class JoinedAndTurned(unittest.TestCase):
    def test_joined(self):
        for seed in range(400, 430):
            first, second = grown(seed, 50, 9, 9), grown(seed + 50, 70, 10, 10)
            t, u = plan_of(first), plan_of(second)
            for how, expected in enumerate([first | second, first & second, first - second]):
                answer = join(how, t, u)
                self.assertEqual(answer, text([number for cell in expected for number in cell]))
                if answer != [-2]:
                    self.assertEqual(told_cells(answer[1:]), expected)

    def test_cut_in_two_and_joined_again(self):
        for seed in range(430, 450):
            whole, part = grown(seed, 70, 10, 10), grown(seed, 20, 10, 10)
            t, u = plan_of(whole), plan_of(part)
            rest = join(2, t, u)
            if rest != [-2]:
                self.assertEqual(join(0, rest[1:], u), [0] + t)
                self.assertEqual(join(1, rest[1:], u), [-2])
            self.assertEqual(join(1, t, u), [0] + u)
            self.assertEqual(join(0, u, t), [0] + t)

    def test_turned_and_turned_back_mirrored_twice(self):
        for house in ALL_HOUSES:
            t = plan_of(house)
            home = moved(0, 0, t)
            x, y = min(x for x, y in house), min(y for x, y in house)
            for k in range(8):
                back = (4 - k) % 4 if k < 4 else k
                again = turned(back, turned(k, t)[1:])
                self.assertEqual(again, home)
                self.assertEqual(moved(x, y, again[1:]), [0] + t)

    def test_turned_it_has_as_many_and_the_same_space(self):
        for house in ALL_HOUSES:
            t = plan_of(house)
            before = facts(t)[:5], depths(t), space(t)
            for k in (1, 2, 3, 4, 5, 6, 7) if len(house) < 150 else (1, 6):
                u = turned(k, t)[1:]
                self.assertEqual((facts(u)[:5], depths(u), space(u)), before)


class Heights(unittest.TestCase):
    HOUSES = [grown(seed, 45, 8, 8) for seed in range(500, 508)] + [
        HOUSES["the document's example"],
        HOUSES["courtyard of one cell, north-east"],
        HOUSES["squares that overlap in a cell"],
        rectangle(57, 58, 7, 6),
    ]

    def test_the_greatest_square_that_the_house_has_room_for(self):
        for house in self.HOUSES:
            t, halves = plan_of(house), half_cells(house)
            for x, y in all_points(house):
                h = height(x, y, t)[0]
                self.assertTrue(rectangle(x - h, y - h, 2 * h, 2 * h) <= halves)
                self.assertFalse(rectangle(x - h - 1, y - h - 1, 2 * h + 2, 2 * h + 2) <= halves)

    def test_half_a_foot_apart(self):
        for house in self.HOUSES:
            t = plan_of(house)
            heights = {point: height(*point, t)[0] for point in all_points(house)}
            for point in heights:
                for beside in neighbours(point):
                    self.assertLessEqual(heights[point] - heights.get(beside, 0), 1)

    def test_over_a_half_cells_corners(self):
        for house in self.HOUSES:
            t = plan_of(house)
            for half in half_cells(house):
                k = depth(*half, t)[0]
                over = {height(*corner, t)[0] for corner in corners_of(half)}
                self.assertTrue(over <= {k, k + 1}, (house, half))

    def test_the_highest_is_the_greatest_of_them(self):
        for house in self.HOUSES:
            t = plan_of(house)
            heights = [(-height(x, y, t)[0], y, x) for x, y in all_points(house)]
            greatest, y, x = min(heights)
            self.assertEqual(highest(t), [-greatest, x, y])


class InsetsAndSpace(unittest.TestCase):
    def test_space_by_insets(self):
        for house in ALL_HOUSES + SMALL:
            t = plan_of(house)
            in_by = [inset(k, t)[0] for k in range(depths(t)[0] + 1)]
            self.assertEqual(in_by[-1], 0)
            self.assertEqual(in_by[0], 4 * len(house))
            more = space(t)[0] - 24 * sum(in_by[1:])
            self.assertTrue(8 * in_by[0] <= more <= 16 * in_by[0], house)

    def test_in_by_a_and_b(self):
        """Seen from one half-cell: it lies in by a + b if all up to b around it lie in by a."""
        for house in Heights.HOUSES:
            t = plan_of(house)
            deep = {half: depth(*half, t)[0] for half in half_cells(house)}
            for a in range(4):
                for b in range(4):
                    inner = {half for half in deep if deep[half] >= a}
                    twice = {(i, j) for i, j in inner if rectangle(i - b, j - b, 2 * b + 1, 2 * b + 1) <= inner}
                    self.assertEqual(len(twice), inset(a + b, t)[0])
                    self.assertEqual(twice, {half for half in deep if deep[half] >= a + b})


class HouseWithinAnother(unittest.TestCase):
    def within(self, inner, outer):
        t, u = plan_of(outer), plan_of(inner)
        self.assertEqual(holds(t, u), [1])
        self.assertLessEqual(space(u)[0], space(t)[0])
        self.assertLessEqual(highest(u)[0], highest(t)[0])
        for x, y in all_points(outer):
            self.assertLessEqual(height(x, y, u)[0], height(x, y, t)[0])

    def test_grown_houses(self):
        for seed in range(600, 608):
            self.within(grown(seed, 12, 9, 9), grown(seed, 50, 9, 9))

    def test_small_houses(self):
        for inner in SMALL[::9]:
            self.within(inner, rectangle(0, 0, 3, 3))
            self.within(shifted(inner, 61, 61), rectangle(60, 60, 4, 4))

    def test_courtyards(self):
        self.within(HOUSES["courtyards of many shapes"], rectangle(5, 7, 14, 12))
        self.within(HOUSES["two courtyards in a row"], rectangle(0, 0, 5, 3))


class TheCalls(unittest.TestCase):
    def test_there_are_fourteen(self):
        names = "judge facts cells text join turned moved height depth highest inset depths space holds".split()
        self.assertEqual([name for name in names if not callable(getattr(plans, name, None))], [])


if __name__ == "__main__":
    unittest.main()
