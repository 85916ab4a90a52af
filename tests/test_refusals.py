"""-1 and -6, and which refusal is told of several.

The faults of a text are in test_faults, -5 is in test_at.
"""

import unittest
from fractions import Fraction

from enclosedrays.desk import at, trace
from enclosedrays.numerals import exact_text
from enclosedrays.refusals import TooGreat
from tests.helper import AXIS_P, GREAT_P, GREAT_START, axis_system, call, call_at, great_system, reckon, reckon_at
from tests.helper import said_at, text, told, told_at

STOP = "glass air:1,1,1;start air;stop s after 1;"
NINES = "9" * 18
ONE_AND_ZEROS = "1" + "0" * 18

NUMBERS = (
    ("0", 0), ("-0", 0), ("00", 0), ("7", 7), ("-7", -7), ("007", 7), ("0.5", Fraction(1, 2)),
    ("-000.500", Fraction(-1, 2)), ("6/4", Fraction(3, 2)), ("-0/9", 0), ("010/004", Fraction(5, 2)),
    (NINES, 10 ** 18 - 1), ("-" + NINES, 1 - 10 ** 18), ("1/" + NINES, Fraction(1, 10 ** 18 - 1)),
    # At or above 10^18 as it's written, below it in least terms.
    (ONE_AND_ZEROS + "/2", 5 * 10 ** 17), (ONE_AND_ZEROS + "/" + ONE_AND_ZEROS, 1),
    ("2/" + ONE_AND_ZEROS, Fraction(1, 5 * 10 ** 17)), ("0.5" + "0" * 40, Fraction(1, 2)),
    ("0." + "0" * 17 + "2", Fraction(1, 5 * 10 ** 17)), ("3" * 200 + "/" + "3" * 200, 1),
    ("0" * 511 + "7", 7), ("-" + "0" * 510 + "7", -7), ("7." + "0" * 510, 7), ("14/" + "0" * 508 + "2", 7),
)

NO_NUMBERS = (
    "", "-", "+1", "--1", "- 1", " 1", "1 ", "1\n", "1.", ".5", "-.5", "1/", "/2", "1/-2", "1.5/2", "1/2.5", "1/2/3",
    "1.2.3", "1/0", "1/000", "0/0", "1e5", "0x1", "1_0", "1,5", "a", "1a", "1-", "\u00b2", "1\u00b2", "\u00ff", "\x00",
    "1\x00", "1:2", "/", ".", "-/1", "1/.", "1./2",
    "0" * 512 + "7", "-" + "0" * 511 + "7", "7." + "0" * 511, "7" + " " * 512, "0" * 3000,
    ONE_AND_ZEROS, "-" + ONE_AND_ZEROS, "1/" + ONE_AND_ZEROS, "3/" + ONE_AND_ZEROS, ONE_AND_ZEROS + "/3",
    "0." + "0" * 17 + "1", "-0." + "0" * 17 + "1", "9" * 19, "2" + ONE_AND_ZEROS + "/2", "9" * 512,
)


def with_one(number, k):
    """A start whose k-th number is this one."""
    start = ["0", "0", "0", "0"]
    start[k] = number
    return trace(0, 20, text(STOP), *[text(each) for each in start])


def at_with_one(number, k):
    """The same of at; the fifth number is z."""
    start = ["0", "0", "0", "0", "0"]
    start[k] = number
    return at(0, 20, text(STOP), *[text(each) for each in start])


class NumbersHandedOver(unittest.TestCase):
    def test_taken(self):
        for number, value in NUMBERS:
            for k in (0, 1):
                same = with_one(f"{Fraction(value)}", k)
                self.assertEqual(with_one(number, k), same, number)
                self.assertEqual(same[1:3], [1, 0])
            self.assertEqual(with_one(number, 2), with_one(f"{Fraction(value)}", 2), number)
            self.assertEqual(with_one(number, 3), with_one(f"{Fraction(value)}", 3), number)

    def test_value(self):
        for number, value in NUMBERS:
            pair = told(STOP, f"{number} 0 0 0", 256).rays[0][0]
            self.assertTrue(pair[0] <= value <= pair[1] and pair[1] - pair[0] <= Fraction(1, 2 ** 256), number)

    def test_refused(self):
        for number in NO_NUMBERS:
            for k in range(4):
                self.assertEqual(with_one(number, k), [-1], number)

    def test_every_byte_alone_and_behind(self):
        for byte in range(256):
            digit = 48 <= byte <= 57
            for number in ([byte], [49, byte], [byte, 49], [49, byte, 49]):
                good = digit or (number == [45, 49]) or (len(number) == 3 and byte in (46, 47))
                answer = trace(0, 8, text(STOP), number, [48], [48], [48])
                self.assertEqual(answer != [-1], good, number)
                answer = at(0, 8, text(STOP), [48], [48], [48], [48], number)
                self.assertEqual(answer != [-1], good, number)

    def test_taken_by_at(self):
        for number, value in NUMBERS:
            for k in range(5):
                self.assertEqual(at_with_one(number, k), at_with_one(f"{Fraction(value)}", k), number)
            self.assertGreater(at_with_one(number, 4)[0], 0)

    def test_value_of_the_plane(self):
        # With the slope 3/4, x is 3/4 of z.
        for number, value in NUMBERS:
            pair = told_at(STOP, "-3/4 0 3/4 0", number, 256)[0]
            x = value * Fraction(3, 4)
            self.assertTrue(pair[0] <= x <= pair[1] and pair[1] - pair[0] <= Fraction(1, 2 ** 180), number)

    def test_refused_by_at(self):
        for number in NO_NUMBERS:
            for k in range(5):
                self.assertEqual(at_with_one(number, k), [-1], number)


class Ranges(unittest.TestCase):
    def test_line(self):
        for line in (0, 1, 2):
            self.assertEqual(call(STOP, "0 0 0 0", 8, line)[1:3], [1, 0])
        for line in (3, 4, 255, 4294967295):
            self.assertEqual(call(STOP, "0 0 0 0", 8, line), [-1])

    def test_fineness(self):
        for p in (0, 1, 255, 256):
            self.assertEqual(call(STOP, "0 0 0 0", p)[1:3], [1, 0])
        for p in (257, 258, 65536, 4294967295):
            self.assertEqual(call(STOP, "0 0 0 0", p), [-1])

    def test_text_length(self):
        for filling in (" ", "\n", "#"):
            self.assertEqual(call(STOP + filling * (65536 - len(STOP)), "0 0 0 0", 8)[1:3], [1, 0])
            self.assertEqual(call(STOP + filling * (65537 - len(STOP)), "0 0 0 0", 8), [-1])
        self.assertEqual(call(STOP + " " * (70000 - len(STOP)), "0 0 0 0", 8), [-1])

    def test_at(self):
        for line, p in ((0, 0), (1, 1), (2, 255), (0, 256)):
            self.assertEqual(said_at(STOP, "3 4 0 0", "5", p, line), "3 3 4 4")
        for line, p in ((3, 8), (4, 8), (4294967295, 8), (0, 257), (0, 258), (0, 65536), (2, 4294967295), (3, 257)):
            self.assertEqual(call_at(STOP, "3 4 0 0", "5", p, line), [-1])
        for filling in (" ", "\n", "#"):
            self.assertEqual(said_at(STOP + filling * (65536 - len(STOP)), "3 4 0 0", "5", 8), "3 3 4 4")
            self.assertEqual(call_at(STOP + filling * (65537 - len(STOP)), "3 4 0 0", "5", 8), [-1])
        self.assertEqual(call_at(STOP + " " * (70000 - len(STOP)), "3 4 0 0", "5", 8), [-1])


class TooGreatToTell(unittest.TestCase):
    def test_told_up_to_the_edge(self):
        rays, ending = reckon(great_system(62), GREAT_START, GREAT_P)
        self.assertEqual((len(rays), ending), (64, 0))
        great = [any(abs(end.numerator) >= 2 ** 4096 for pair in ray for end in pair) for ray in rays]
        first = great.index(True)
        self.assertGreater(first, 2)
        answer = told(great_system(first - 2), GREAT_START, GREAT_P)
        self.assertEqual((answer.passed, answer.ending, answer.rays), (first, 0, rays[:first]))
        for stops in (first - 1, first, 62):
            self.assertEqual(call(great_system(stops), GREAT_START, GREAT_P), [-6])

    def test_however_the_ray_ends(self):
        begun = great_system(60)
        for rest in ("stop z after 1 clear 1;", "mirror z after 1 curve 9;", "mirror z after 1 flat;"):
            self.assertEqual(call(begun + rest, GREAT_START, GREAT_P), [-6])
            self.assertEqual(call(begun + rest + "surface y after 3 into a curve 1/7;", GREAT_START, GREAT_P), [-6])

    def test_edge_itself(self):
        edge = 2 ** 4096
        self.assertEqual(exact_text(edge - 1, 1), str(edge - 1))
        self.assertEqual(exact_text(1 - edge, 1), str(1 - edge))
        self.assertEqual(exact_text(1, edge - 1), f"1/{edge - 1}")
        self.assertEqual(exact_text(edge * 8, 16), str(edge // 2))
        self.assertEqual(exact_text(1 - edge, 2 ** 256), f"{1 - edge}/{2 ** 256}")
        for top, bottom in ((edge, 1), (-edge, 1), (1, edge), (edge * 4, 4), (edge + 1, 2 ** 256)):
            self.assertRaises(TooGreat, exact_text, top, bottom)

    def test_exact_texts(self):
        for top, bottom, said in ((0, 1, "0"), (0, 1024, "0"), (-6, 4, "-3/2"), (8, 4, "2"), (-8, 8, "-1"),
                                  (5, 16, "5/16"), (100, 1, "100")):
            self.assertEqual(exact_text(top, bottom), said)


# Gaps, in parts of 10^10, from which x's greater end at the plane is just about 2^4096 by 2^120.
JUST_BELOW = 59639408315697225
JUST_ABOVE = 59639408315697226
ABOVE_BUT_FOR_LEAST_TERMS = 59639408315697227


def edge_system(gap):
    return great_system(31, f"{gap}/10000000000")


def turned(start, way):
    """The start of the same ray, seen from another side."""
    x, y, u, v = [Fraction(number) for number in start.split(" ")]
    sides = {"x": (x, y, u, v), "-x": (-x, y, -u, v), "y": (y, x, v, u), "-y": (y, -x, v, -u)}
    return " ".join(str(number) for number in sides[way])


class TooGreatAtThePlane(unittest.TestCase):
    """The numbers told have a denominator of 2^256 at most: only numerators come to the edge."""

    def numerators(self, gap, way):
        pairs = reckon_at(edge_system(gap), turned(GREAT_START, way), "0", GREAT_P)
        return [abs(end.numerator) for pair in pairs for end in pair]

    def test_edge(self):
        edge = 2 ** 4096
        for place, way in enumerate(("x", "-x", "y", "-y")):
            start = turned(GREAT_START, way)
            # Each time it is another of the four ends that comes to the edge, and this one alone.
            below = self.numerators(JUST_BELOW, way)
            self.assertTrue(edge - edge // 2 ** 40 < below[place] == max(below) < edge)
            self.assertEqual(told_at(edge_system(JUST_BELOW), start, "0", GREAT_P),
                             reckon_at(edge_system(JUST_BELOW), start, "0", GREAT_P))
            above = self.numerators(JUST_ABOVE, way)
            self.assertEqual([number >= edge for number in above], [k == place for k in range(4)])
            self.assertLess(above[place], edge + edge // 2 ** 40)
            self.assertEqual(call_at(edge_system(JUST_ABOVE), start, "0", GREAT_P), [-6])

    def test_in_least_terms(self):
        for way in ("x", "-x", "y", "-y"):
            start = turned(GREAT_START, way)
            pairs = told_at(edge_system(ABOVE_BUT_FOR_LEAST_TERMS), start, "0", GREAT_P)
            self.assertEqual(pairs, reckon_at(edge_system(ABOVE_BUT_FOR_LEAST_TERMS), start, "0", GREAT_P))
            self.assertGreater(max(abs(end) for pair in pairs for end in pair) * 2 ** GREAT_P, 2 ** 4096)

    def test_beyond(self):
        for stops in (33, 40, 62):
            for z in ("0", "1", "-999999999999999999"):
                self.assertEqual(call_at(great_system(stops), GREAT_START, z, GREAT_P), [-6])

    def test_what_lies_before_is_not_told(self):
        # Along the axis z alone becomes wide; trace tells it and at doesn't.
        for start, said in (("0 0 0 0", "0 0 0 0"), ("3 -5/2 0 0", "3 3 -5/2 -5/2")):
            self.assertEqual(call(axis_system(20), start, AXIS_P)[1:3], [28, 0])
            self.assertEqual(call(axis_system(56), start, AXIS_P), [-6])
            for stops in (0, 20, 56):
                for z in ("0", "7/3", "-999999999999999999"):
                    self.assertEqual(said_at(axis_system(stops), start, z, AXIS_P), said)

    def test_not_told_where_it_is_lost_either(self):
        for rest in ("stop z after 1 clear 2;", "mirror z after 1 curve 9;"):
            self.assertEqual(call(axis_system(50) + rest, "3 0 0 0", AXIS_P), [-6])
            self.assertEqual(call_at(axis_system(50) + rest, "3 0 0 0", "1", AXIS_P), [-5])


class Order(unittest.TestCase):
    def test_not_taken_comes_first(self):
        faulty = "glass ?"
        self.assertEqual(call(faulty, "0 0 0 0", 8), [-3, 6, 1])
        self.assertEqual(call(faulty, "0 0 0 x", 8), [-1])
        self.assertEqual(call(faulty, "1/0 0 0 0", 8), [-1])
        self.assertEqual(call(faulty, "0 0 0 0", 257), [-1])
        self.assertEqual(call(faulty, "0 0 0 0", 8, 3), [-1])
        self.assertEqual(call("?" + " " * 65536, "0 0 0 0", 8), [-1])
        self.assertEqual(call("?" + " " * 65535, "0 0 0 0", 8), [-3, 0, 1])

    def test_too_great_comes_last(self):
        source = great_system(60)
        self.assertEqual(call(source, GREAT_START, GREAT_P), [-6])
        self.assertEqual(call(source + "?", GREAT_START, GREAT_P), [-3, len(source), 1])
        self.assertEqual(call(source, GREAT_START, 257), [-1])
        self.assertEqual(call(source, GREAT_START + "/0", GREAT_P), [-1])
        self.assertEqual(call(source + "?", GREAT_START, GREAT_P, 3), [-1])

    def test_of_at(self):
        great = great_system(40)
        # Faulty and great; lost and great; left open at the plane, and great.
        lost = great + "stop z after 1 clear 1;"
        level = great + "surface z after 1 into h flat;"
        self.assertEqual(call(great_system(29) + "surface z after 1 into h flat;", GREAT_START, GREAT_P)[1:3], [32, 0])
        self.assertEqual(call_at(great, GREAT_START, "1", GREAT_P), [-6])
        for source in (lost, level):
            self.assertEqual(call_at(source, GREAT_START, "1", GREAT_P), [-5])
        for source in (great, lost, level, STOP[:-1] + " clear 1/9;"):
            self.assertEqual(call_at(source + "?", GREAT_START, "1", GREAT_P), [-3, len(source), 1])
            self.assertEqual(call_at(source + "stop s after 1;", GREAT_START, "1", GREAT_P), [-3, len(source) + 5, 3])
            for start, z, p, line in ((GREAT_START + "/0", "1", GREAT_P, 0), (GREAT_START, "1.", GREAT_P, 0),
                                      (GREAT_START, "", GREAT_P, 0), (GREAT_START, "1", 257, 0),
                                      (GREAT_START, "1", GREAT_P, 3)):
                self.assertEqual(call_at(source, start, z, p, line), [-1])
                self.assertEqual(call_at(source + "?", start, z, p, line), [-1])

    def test_of_at_long_texts(self):
        self.assertEqual(call_at("?" + " " * 65536, "0 0 0 0", "0", 8), [-1])
        self.assertEqual(call_at("?" + " " * 65535, "0 0 0 0", "0", 8), [-3, 0, 1])
        self.assertEqual(call_at("", "0 0 0 0", "0", 8), [-3, 0, 2])
