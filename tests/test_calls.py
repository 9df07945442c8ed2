"""What holds of each call: in good time, nothing changed, kept or printed, whole numbers alone."""

import contextlib
import inspect
import io
import sys
import time
import unittest

from roofplans import plans
from tests.helper import (
    EXAMPLE,
    HOUSES,
    RING,
    UNIT,
    WRONG_TEXTS,
    flat,
    mixed,
    plan_of,
    rectangle,
    snake,
    text_of,
    to_bytes,
)

OTHER = to_bytes(RING)

# Each call by the names of its arguments, and what it's tried with for a text: first what
# is answered with -1 if the text is no house's, then what is refused whatever the text is.
CALLS = {
    "facts": (["t"], lambda t: [(t,)], lambda t: []),
    "cells": (["t"], lambda t: [(t,)], lambda t: []),
    "join": (["how", "t", "u"], lambda t: [(0, t, OTHER), (1, t, t), (2, OTHER, t)], lambda t: [(3, t, OTHER)]),
    "turned": (["k", "t"], lambda t: [(0, t), (7, t)], lambda t: [(8, t)]),
    "moved": (["x", "y", "t"], lambda t: [(3, 0, t), (63, 2**32 - 1, t)], lambda t: []),
    "height": (["px", "py", "t"], lambda t: [(16, 15, t), (128, 128, t)], lambda t: [(129, 0, t)]),
    "depth": (["i", "j", "t"], lambda t: [(0, 1, t), (127, 127, t)], lambda t: [(0, 128, t)]),
    "highest": (["t"], lambda t: [(t,)], lambda t: []),
    "inset": (["k", "t"], lambda t: [(0, t), (2, t), (2**32 - 1, t)], lambda t: []),
    "depths": (["t"], lambda t: [(t,)], lambda t: []),
    "space": (["t"], lambda t: [(t,)], lambda t: []),
    "holds": (["t", "u"], lambda t: [(t, OTHER), (OTHER, t), (t, t)], lambda t: []),
}

SOME_CELLS = [flat(mixed(house, 4)) for house in HOUSES.values()] + [
    [],
    [0, 0, 1, 1],
    [64, 0],
    [0, 0, 2**32 - 1, 2**32 - 1],
    [63, 63] * 1024,
    flat(HOUSES["stairs"]) * 4,
    flat(snake(257)) + [0, 0] * 767,
    flat(rectangle(0, 0, 32, 32)),
    flat(rectangle(0, 0, 64, 16)),
    flat((x, y) for x in range(0, 64, 2) for y in range(0, 64, 2)),
    flat(rectangle(64, 64, 32, 32)),
    [2**32 - 1] * 2048,
]

LONGEST = 4096
SECONDS = 2


def filled_up(words):
    """The words again and again, then corners of 4 and 5 bytes until the text is as long as may be."""
    whole = words * ((LONGEST - 16) // len(words))
    rest = LONGEST - len(whole)
    fives = rest % 4
    fours = (rest - 5 * fives) // 4
    return (whole + "10,0 " * fives + "0,0 " * fours)[:-1] + "\n"


def squares():
    """A line for each of some cells that lie apart."""
    return "".join(text_of({(x, y)}) for y in range(0, 64, 8) for x in range(0, 64, 3))[: LONGEST - 16]


LONG_WHOLE = {
    "one point in one line": filled_up("0,0 "),
    "one point in many lines": filled_up("0,0 0,0 0,0 0,0\n"),
    "one cell in many lines": filled_up(UNIT),
    "far to and fro": filled_up("0,0 0,64 "),
    "around the ground, ever again": filled_up("0,0 64,0 64,64 0,64 "),
    "around the ground in many lines": filled_up("0,0 64,0 64,64 0,64\n"),
    "two-digit numbers": filled_up("64,64 10,64 "),
    "cells that lie apart": filled_up(squares()[: squares().rindex("\n") + 1]),
    "a house of many corners, and more": filled_up(text_of(HOUSES["stairs"])),
    "a house of many courtyards, and more": filled_up(text_of(HOUSES["72 courtyards"])),
}

LONG_BROKEN = {
    "no line feed": ("0,0 " * 1024, LONGEST),
    "ends within a number": ("0,0 " * 1022 + "10,0 0,6", LONGEST),
    "a digit too much": ("0,0 " * 1023 + "0,00", LONGEST - 1),
    "ends behind a comma": ("0,0 " * 1022 + "10,10 0,", LONGEST),
    "digits alone": ("6" * LONGEST, 1),
    "wrong at the end": ("0,0 " * 1023 + "0,0a", LONGEST - 1),
    "blank at the end": (UNIT * 255 + "0,0 1,0 1,1 0,1 ", LONGEST),
    "too few corners in the last line": (UNIT * 255 + "64,64 64,64 0,0\n", LONGEST - 1),
    "blanks alone": (" " * LONGEST, 0),
    "line feeds alone": ("\n" * LONGEST, 0),
    "all 255": ("\xff" * LONGEST, 0),
}


class ReadOnlyList(list):
    """A list that tells any attempt to change it, be it for a while."""

    def refuse(self, *args, **kwargs):
        raise AssertionError("what was handed in was changed")

    append = extend = insert = remove = pop = clear = sort = reverse = refuse
    __setitem__ = __delitem__ = __iadd__ = __imul__ = refuse


def some_texts():
    houses = [plan_of(house) for house in HOUSES.values()]
    return houses + WRONG_TEXTS + [to_bytes(words) for words in LONG_WHOLE.values()]


def calls_of(t):
    """All calls that take a text, with all that they are tried with, for this one."""
    calls = [(plans.judge, (t,))]
    for name, (names, asked, refused) in CALLS.items():
        calls += [(getattr(plans, name), handed) for handed in asked(t) + refused(t)]
    return calls


def some_calls():
    calls = [(plans.text, (cells,)) for cells in SOME_CELLS]
    for t in some_texts():
        calls += calls_of(t)
    return calls


def read_only(handed):
    return tuple(ReadOnlyList(value) if isinstance(value, list) else value for value in handed)


def copied(handed):
    return tuple(list(value) if isinstance(value, list) else value for value in handed)


class Long(unittest.TestCase):
    def in_good_time(self, call, handed):
        begun = time.perf_counter()
        answer = call(*handed)
        self.assertLess(time.perf_counter() - begun, SECONDS)
        return answer

    def refused_in_good_time(self, t):
        for name, (names, asked, refused) in CALLS.items():
            for handed in asked(t):
                self.assertEqual(self.in_good_time(getattr(plans, name), handed), [-1], name)

    def test_whole(self):
        for name, words in LONG_WHOLE.items():
            with self.subTest(name):
                t = to_bytes(words)
                self.assertEqual(len(t), LONGEST)
                self.assertEqual(self.in_good_time(plans.judge, (t,)), [0, 2, 0])
                self.refused_in_good_time(t)

    def test_broken(self):
        for name, (words, wrong) in LONG_BROKEN.items():
            with self.subTest(name):
                t = to_bytes(words)
                self.assertEqual(len(t), LONGEST)
                self.assertEqual(self.in_good_time(plans.judge, (t,)), [0, 1, wrong])
                self.refused_in_good_time(t)

    def test_houses(self):
        for house in HOUSES.values():
            for call, handed in calls_of(plan_of(house)):
                self.in_good_time(call, handed)

    def test_two_long_texts(self):
        stairs, courts = plan_of(HOUSES["stairs"]), plan_of(HOUSES["72 courtyards"])
        for how in range(3):
            self.in_good_time(plans.join, (how, stairs, courts))
        self.in_good_time(plans.holds, (stairs, courts))

    def test_cells(self):
        for cells in SOME_CELLS:
            self.assertLessEqual(len(cells), 2048)
            self.in_good_time(plans.text, (cells,))


class EachCall(unittest.TestCase):
    def test_what_is_handed_in_is_not_changed(self):
        for call, handed in some_calls():
            given = read_only(handed)
            call(*given)
            self.assertEqual(copied(given), handed)

    def test_the_same_call_twice_answers_the_same(self):
        for call, handed in some_calls():
            self.assertEqual(call(*handed), call(*copied(handed)))

    def test_nothing_is_kept_of_an_answer(self):
        for words in (EXAMPLE, RING, "", "0,0 0,1 1,1 1,0\n"):
            for call, handed in calls_of(to_bytes(words)) + [(plans.text, ([4, 5],)), (plans.text, ([],))]:
                answer = call(*handed)
                before = list(answer)
                answer.append(7)
                answer[0] = 99
                self.assertEqual(call(*handed), before)

    def test_an_answer_is_not_what_was_handed_in(self):
        for call, handed in some_calls():
            answer = call(*handed)
            self.assertFalse([value for value in handed if value is answer])

    def test_calls_between_change_nothing(self):
        calls = some_calls()
        forward = [call(*handed) for call, handed in calls]
        backward = [call(*handed) for call, handed in reversed(calls)]
        self.assertEqual(forward, backward[::-1])

    def test_answers_are_lists_of_whole_numbers(self):
        for call, handed in some_calls():
            answer = call(*handed)
            self.assertIs(type(answer), list)
            self.assertGreater(len(answer), 0)
            self.assertEqual({type(number) for number in answer}, {int})

    def test_a_refusal_is_its_number_alone(self):
        for call, handed in some_calls():
            answer = call(*handed)
            if answer[0] < 0:
                self.assertEqual(len(answer), 1)
            self.assertFalse([number for number in answer[1:] if number < 0])

    def test_nothing_is_printed(self):
        out = io.StringIO()
        with contextlib.redirect_stdout(out), contextlib.redirect_stderr(out):
            for call, handed in some_calls():
                call(*handed)
        self.assertEqual(out.getvalue(), "")

    def test_names_of_arguments(self):
        for name, (names, asked, refused) in CALLS.items():
            call = getattr(plans, name)
            self.assertEqual(list(inspect.signature(call).parameters), names)
            for handed in asked(to_bytes(UNIT)):
                self.assertEqual(call(**dict(zip(names, handed))), call(*handed))
        self.assertEqual(list(inspect.signature(plans.judge).parameters), ["t"])
        self.assertEqual(list(inspect.signature(plans.text).parameters), ["cells"])

    def test_few_calls_within_one_another(self):
        calls = some_calls()
        limit = sys.getrecursionlimit()
        sys.setrecursionlimit(len(inspect.stack()) + 40)
        try:
            for call, handed in calls:
                call(*handed)
        finally:
            sys.setrecursionlimit(limit)


if __name__ == "__main__":
    unittest.main()
