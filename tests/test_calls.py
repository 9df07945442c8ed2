"""What holds of each call: in good time, nothing changed, kept or printed, whole numbers alone."""

import contextlib
import inspect
import io
import sys
import time
import unittest

from roofplans import plans
from tests.helper import EXAMPLE, HOUSES, NO_HOUSES, RING, UNIT, WRONG_SHAPES, text_of, to_bytes

CALLS = (plans.judge, plans.facts, plans.cells)
LONGEST = 4096
SECONDS = 2


def filled_up(words):
    """The words again and again, then corners of 4 and 5 bytes until the text is as long as may be."""
    whole = words * ((LONGEST - 16) // len(words))
    rest = LONGEST - len(whole)
    fives = rest % 4
    fours = (rest - 5 * fives) // 4
    return (whole + "10,0 " * fives + "0,0 " * fours)[:-1] + "\n"


def squares():
    """A line for each of some cells that lie apart."""
    return "".join(text_of({(x, y)}) for y in range(0, 64, 8) for x in range(0, 64, 3))[: LONGEST - 16]


LONG_WHOLE = {
    "one point in one line": filled_up("0,0 "),
    "one point in many lines": filled_up("0,0 0,0 0,0 0,0\n"),
    "one cell in many lines": filled_up(UNIT),
    "far to and fro": filled_up("0,0 0,64 "),
    "around the ground, ever again": filled_up("0,0 64,0 64,64 0,64 "),
    "around the ground in many lines": filled_up("0,0 64,0 64,64 0,64\n"),
    "two-digit numbers": filled_up("64,64 10,64 "),
    "cells that lie apart": filled_up(squares()[: squares().rindex("\n") + 1]),
    "a house of many corners, and more": filled_up(text_of(HOUSES["stairs"])),
    "a house of many courtyards, and more": filled_up(text_of(HOUSES["72 courtyards"])),
}

LONG_BROKEN = {
    "no line feed": ("0,0 " * 1024, LONGEST),
    "ends within a number": ("0,0 " * 1022 + "10,0 0,6", LONGEST),
    "a digit too much": ("0,0 " * 1023 + "0,00", LONGEST - 1),
    "ends behind a comma": ("0,0 " * 1022 + "10,10 0,", LONGEST),
    "digits alone": ("6" * LONGEST, 1),
    "wrong at the end": ("0,0 " * 1023 + "0,0a", LONGEST - 1),
    "blank at the end": (UNIT * 255 + "0,0 1,0 1,1 0,1 ", LONGEST),
    "too few corners in the last line": (UNIT * 255 + "64,64 64,64 0,0\n", LONGEST - 1),
    "blanks alone": (" " * LONGEST, 0),
    "line feeds alone": ("\n" * LONGEST, 0),
    "all 255": ("\xff" * LONGEST, 0),
}


class ReadOnlyList(list):
    """A list that tells any attempt to change it, be it for a while."""

    def refuse(self, *args, **kwargs):
        raise AssertionError("what was handed in was changed")

    append = extend = insert = remove = pop = clear = sort = reverse = refuse
    __setitem__ = __delitem__ = __iadd__ = __imul__ = refuse


def some_texts():
    texts = [text_of(house) for house in HOUSES.values()]
    texts += list(NO_HOUSES.values()) + [words for words, wrong in WRONG_SHAPES]
    return [to_bytes(words) for words in texts + list(LONG_WHOLE.values())]


class Long(unittest.TestCase):
    def in_good_time(self, call, t):
        begun = time.perf_counter()
        answer = call(t)
        self.assertLess(time.perf_counter() - begun, SECONDS)
        return answer

    def test_whole(self):
        for name, words in LONG_WHOLE.items():
            with self.subTest(name):
                t = to_bytes(words)
                self.assertEqual(len(t), LONGEST)
                self.assertEqual(self.in_good_time(plans.judge, t), [0, 2, 0])
                self.assertEqual(self.in_good_time(plans.facts, t), [-1])
                self.assertEqual(self.in_good_time(plans.cells, t), [-1])

    def test_broken(self):
        for name, (words, wrong) in LONG_BROKEN.items():
            with self.subTest(name):
                t = to_bytes(words)
                self.assertEqual(len(t), LONGEST)
                self.assertEqual(self.in_good_time(plans.judge, t), [0, 1, wrong])
                self.assertEqual(self.in_good_time(plans.facts, t), [-1])
                self.assertEqual(self.in_good_time(plans.cells, t), [-1])

    def test_houses(self):
        for house in HOUSES.values():
            for call in CALLS:
                self.in_good_time(call, to_bytes(text_of(house)))


class EachCall(unittest.TestCase):
    def test_what_is_handed_in_is_not_changed(self):
        for t in some_texts():
            for call in CALLS:
                handed = ReadOnlyList(t)
                call(handed)
                self.assertEqual(list(handed), t)

    def test_the_same_call_twice_answers_the_same(self):
        for t in some_texts():
            for call in CALLS:
                self.assertEqual(call(t), call(list(t)))

    def test_nothing_is_kept_of_an_answer(self):
        for call in CALLS:
            for words in (EXAMPLE, RING, "", "0,0 0,1 1,1 1,0\n"):
                answer = call(to_bytes(words))
                before = list(answer)
                answer.append(7)
                answer[0] = 99
                self.assertEqual(call(to_bytes(words)), before)

    def test_calls_between_change_nothing(self):
        texts = some_texts()
        alone = [[call(t) for call in CALLS] for t in texts]
        backward = [[call(t) for call in reversed(CALLS)][::-1] for t in reversed(texts)]
        self.assertEqual(alone, backward[::-1])

    def test_answers_are_lists_of_whole_numbers(self):
        for t in some_texts():
            for call in CALLS:
                answer = call(t)
                self.assertIs(type(answer), list)
                self.assertGreater(len(answer), 0)
                self.assertEqual({type(number) for number in answer}, {int})

    def test_nothing_is_printed(self):
        out = io.StringIO()
        with contextlib.redirect_stdout(out), contextlib.redirect_stderr(out):
            for t in some_texts():
                for call in CALLS:
                    call(t)
        self.assertEqual(out.getvalue(), "")

    def test_names_of_arguments(self):
        for call in CALLS:
            self.assertEqual(list(inspect.signature(call).parameters), ["t"])
            self.assertEqual(call(t=to_bytes(UNIT)), call(to_bytes(UNIT)))

    def test_few_calls_within_one_another(self):
        texts = some_texts()
        limit = sys.getrecursionlimit()
        sys.setrecursionlimit(len(inspect.stack()) + 40)
        try:
            for t in texts:
                for call in CALLS:
                    call(t)
        finally:
            sys.setrecursionlimit(limit)


if __name__ == "__main__":
    unittest.main()
