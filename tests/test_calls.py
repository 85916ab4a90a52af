"""What a call leaves as it was, and what it keeps: nothing."""

import inspect
import unittest

from enclosedrays import desk
from tests.helper import text

SYSTEM = "glass a:1,1,1;glass b:3/2,2,5/2;start a;surface s after 1 into b radius 9;mirror m after 3 curve -1/50;"

CALLS = (
    (0, 20, SYSTEM, "0", "1", "1/9", "0"), (1, 256, SYSTEM, "-1/3", "2.5", "0", "-0.1"),
    (2, 0, SYSTEM, "0", "0", "0", "0"), (0, 20, SYSTEM, "99", "0", "0", "0"), (3, 20, SYSTEM, "0", "1", "0", "0"),
    (0, 257, SYSTEM, "0", "1", "0", "0"), (0, 20, SYSTEM, "0", "1", "0", "1/0"), (0, 20, SYSTEM + "?", "0", "1", "0", "0"),
    (0, 20, SYSTEM + "stop s after 0;", "0", "1", "0", "0"), (0, 20, "", "0", "1", "0", "0"),
)


PLANES = ("0", "-7/2", "12.25", "999999999999999999", "", "1/0")


def lists_of(row):
    return [text(value) if isinstance(value, str) else value for value in row]


class Calls(unittest.TestCase):
    def test_handed_in_stays_and_twice_is_the_same(self):
        firsts = []
        for row in CALLS:
            handed = lists_of(row)
            firsts.append(desk.trace(*handed))
            self.assertEqual(handed, lists_of(row))
            self.assertEqual(desk.trace(*handed), firsts[-1])
        # In another order, and with an answer spoiled in between.
        for row, first in reversed(list(zip(CALLS, firsts))):
            again = desk.trace(*lists_of(row))
            self.assertEqual(again, first)
            again.append(7)

    def test_one_list_for_several_numbers(self):
        number = text("1/4")
        self.assertEqual(desk.trace(0, 20, text(SYSTEM), number, number, number, number),
                         desk.trace(0, 20, text(SYSTEM), *[text("1/4") for k in range(4)]))
        self.assertEqual(number, text("1/4"))

    def test_lists_of_whole_numbers(self):
        for row in CALLS:
            answer = desk.trace(*lists_of(row))
            self.assertIs(type(answer), list)
            self.assertTrue(all(type(number) is int for number in answer))
            if answer[0] >= 0:
                self.assertEqual(answer[0], len(answer) - 3)
                self.assertTrue(all(0 <= byte <= 255 for byte in answer[3:]))

    def test_shape_of_refusals(self):
        answers = [desk.trace(*lists_of(row)) for row in CALLS[4:]]
        self.assertEqual(answers[:3], [[-1], [-1], [-1]])
        self.assertEqual(answers[3:], [[-3, len(SYSTEM), 1], [-3, len(SYSTEM) + 5, 3], [-3, 0, 2]])

    def test_arguments(self):
        self.assertEqual(list(inspect.signature(desk.trace).parameters), ["line", "p", "t", "x", "y", "u", "v"])

    def test_by_name(self):
        row = lists_of(CALLS[0])
        named = dict(zip(("line", "p", "t", "x", "y", "u", "v"), row))
        self.assertEqual(desk.trace(**named), desk.trace(*row))

    def test_long_texts_go_by_loops(self):
        for call in (desk.trace, lambda *row: desk.at(*row, [48])):
            self.long_texts(call)

    def long_texts(self, call):
        for source in ("#" * 65536, "\n" * 65536, "#\n" * 32768, "glass " * 10922, "a" * 65536, "1" * 65536):
            self.assertEqual(call(0, 20, text(source), [48], [48], [48], [48])[0], -3)


class CallsOfAt(unittest.TestCase):
    def rows(self):
        return [row + (z,) for row in CALLS for z in PLANES]

    def test_handed_in_stays_and_twice_is_the_same(self):
        firsts = []
        for row in self.rows():
            handed = lists_of(row)
            firsts.append(desk.at(*handed))
            self.assertEqual(handed, lists_of(row))
            self.assertEqual(desk.at(*handed), firsts[-1])
        # In another order, with calls of trace and an answer spoiled in between.
        for row, first in reversed(list(zip(self.rows(), firsts))):
            desk.trace(*lists_of(row[:-1]))
            again = desk.at(*lists_of(row))
            self.assertEqual(again, first)
            again.append(7)

    def test_trace_is_not_touched(self):
        for row in CALLS:
            first = desk.trace(*lists_of(row))
            desk.at(*lists_of(row + ("3",)))
            self.assertEqual(desk.trace(*lists_of(row)), first)

    def test_one_list_for_several_numbers(self):
        number = text("1/4")
        self.assertEqual(desk.at(0, 20, text(SYSTEM), number, number, number, number, number),
                         desk.at(0, 20, text(SYSTEM), *[text("1/4") for k in range(5)]))
        self.assertEqual(number, text("1/4"))

    def test_lists_of_whole_numbers(self):
        kinds = {}
        for row in self.rows():
            answer = desk.at(*lists_of(row))
            self.assertIs(type(answer), list)
            self.assertTrue(all(type(number) is int for number in answer))
            kinds[min(answer[0], 0)] = True
            if answer[0] >= 0:
                self.assertEqual(answer[0], len(answer) - 1)
                self.assertEqual(answer.count(32), 3)
                self.assertTrue(all(0 <= byte <= 255 for byte in answer[1:]))
            else:
                self.assertEqual(len(answer), 3 if answer[0] == -3 else 1)
        self.assertEqual(sorted(kinds), [-5, -3, -1, 0])

    def test_arguments(self):
        names = ["line", "p", "t", "x", "y", "u", "v", "z"]
        self.assertEqual(list(inspect.signature(desk.at).parameters), names)
        for row in self.rows():
            self.assertEqual(desk.at(**dict(zip(names, lists_of(row)))), desk.at(*lists_of(row)))
