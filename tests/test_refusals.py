"""-1 and -6, and which refusal is told of several. The faults of a text are in test_faults."""

import unittest
from fractions import Fraction

from enclosedrays.desk import trace
from enclosedrays.numerals import exact_text
from enclosedrays.refusals import TooGreat
from tests.helper import call, reckon, text, told

STOP = "glass air:1,1,1;start air;stop s after 1;"
NINES = "9" * 18
ONE_AND_ZEROS = "1" + "0" * 18

NUMBERS = (
    ("0", 0), ("-0", 0), ("00", 0), ("7", 7), ("-7", -7), ("007", 7), ("0.5", Fraction(1, 2)),
    ("-000.500", Fraction(-1, 2)), ("6/4", Fraction(3, 2)), ("-0/9", 0), ("010/004", Fraction(5, 2)),
    (NINES, 10 ** 18 - 1), ("-" + NINES, 1 - 10 ** 18), ("1/" + NINES, Fraction(1, 10 ** 18 - 1)),
    # At or above 10^18 as it's written, below it in least terms.
    (ONE_AND_ZEROS + "/2", 5 * 10 ** 17), (ONE_AND_ZEROS + "/" + ONE_AND_ZEROS, 1),
    ("2/" + ONE_AND_ZEROS, Fraction(1, 5 * 10 ** 17)), ("0.5" + "0" * 40, Fraction(1, 2)),
    ("0." + "0" * 17 + "2", Fraction(1, 5 * 10 ** 17)), ("3" * 200 + "/" + "3" * 200, 1),
    ("0" * 511 + "7", 7), ("-" + "0" * 510 + "7", -7), ("7." + "0" * 510, 7), ("14/" + "0" * 508 + "2", 7),
)

NO_NUMBERS = (
    "", "-", "+1", "--1", "- 1", " 1", "1 ", "1\n", "1.", ".5", "-.5", "1/", "/2", "1/-2", "1.5/2", "1/2.5", "1/2/3",
    "1.2.3", "1/0", "1/000", "0/0", "1e5", "0x1", "1_0", "1,5", "a", "1a", "1-", "\u00b2", "1\u00b2", "\u00ff", "\x00",
    "1\x00", "1:2", "/", ".", "-/1", "1/.", "1./2",
    "0" * 512 + "7", "-" + "0" * 511 + "7", "7." + "0" * 511, "7" + " " * 512, "0" * 3000,
    ONE_AND_ZEROS, "-" + ONE_AND_ZEROS, "1/" + ONE_AND_ZEROS, "3/" + ONE_AND_ZEROS, ONE_AND_ZEROS + "/3",
    "0." + "0" * 17 + "1", "-0." + "0" * 17 + "1", "9" * 19, "2" + ONE_AND_ZEROS + "/2", "9" * 512,
)


def with_one(number, k):
    """A start whose k-th number is this one."""
    start = ["0", "0", "0", "0"]
    start[k] = number
    return trace(0, 20, text(STOP), *[text(each) for each in start])


class NumbersHandedOver(unittest.TestCase):
    def test_taken(self):
        for number, value in NUMBERS:
            for k in (0, 1):
                same = with_one(f"{Fraction(value)}", k)
                self.assertEqual(with_one(number, k), same, number)
                self.assertEqual(same[1:3], [1, 0])
            self.assertEqual(with_one(number, 2), with_one(f"{Fraction(value)}", 2), number)
            self.assertEqual(with_one(number, 3), with_one(f"{Fraction(value)}", 3), number)

    def test_value(self):
        for number, value in NUMBERS:
            pair = told(STOP, f"{number} 0 0 0", 256).rays[0][0]
            self.assertTrue(pair[0] <= value <= pair[1] and pair[1] - pair[0] <= Fraction(1, 2 ** 256), number)

    def test_refused(self):
        for number in NO_NUMBERS:
            for k in range(4):
                self.assertEqual(with_one(number, k), [-1], number)

    def test_every_byte_alone_and_behind(self):
        for byte in range(256):
            digit = 48 <= byte <= 57
            for number in ([byte], [49, byte], [byte, 49], [49, byte, 49]):
                good = digit or (number == [45, 49]) or (len(number) == 3 and byte in (46, 47))
                answer = trace(0, 8, text(STOP), number, [48], [48], [48])
                self.assertEqual(answer != [-1], good, number)


class Ranges(unittest.TestCase):
    def test_line(self):
        for line in (0, 1, 2):
            self.assertEqual(call(STOP, "0 0 0 0", 8, line)[1:3], [1, 0])
        for line in (3, 4, 255, 4294967295):
            self.assertEqual(call(STOP, "0 0 0 0", 8, line), [-1])

    def test_fineness(self):
        for p in (0, 1, 255, 256):
            self.assertEqual(call(STOP, "0 0 0 0", p)[1:3], [1, 0])
        for p in (257, 258, 65536, 4294967295):
            self.assertEqual(call(STOP, "0 0 0 0", p), [-1])

    def test_text_length(self):
        for filling in (" ", "\n", "#"):
            self.assertEqual(call(STOP + filling * (65536 - len(STOP)), "0 0 0 0", 8)[1:3], [1, 0])
            self.assertEqual(call(STOP + filling * (65537 - len(STOP)), "0 0 0 0", 8), [-1])
        self.assertEqual(call(STOP + " " * (70000 - len(STOP)), "0 0 0 0", 8), [-1])


def great_system(stops):
    """The curve is chosen so that the intervals grow some 2^70 times at each stop."""
    source = "glass a:1,1,1;glass h:99999999999999999,1,1;start a;stop s after 999999999999999999;"
    source += "surface q after 0 into h curve 99371515403644734/788027147 conic 1000000000;"
    return source + "".join(f"stop s{k} after 1;" for k in range(stops))


GREAT_START = "-333333333333333333 0 1/3 0"


class TooGreatToTell(unittest.TestCase):
    def test_told_up_to_the_edge(self):
        rays, ending = reckon(great_system(62), GREAT_START, 120)
        self.assertEqual((len(rays), ending), (64, 0))
        great = [any(abs(end.numerator) >= 2 ** 4096 for pair in ray for end in pair) for ray in rays]
        first = great.index(True)
        self.assertGreater(first, 2)
        answer = told(great_system(first - 2), GREAT_START, 120)
        self.assertEqual((answer.passed, answer.ending, answer.rays), (first, 0, rays[:first]))
        for stops in (first - 1, first, 62):
            self.assertEqual(call(great_system(stops), GREAT_START, 120), [-6])

    def test_however_the_ray_ends(self):
        begun = great_system(60)
        for rest in ("stop z after 1 clear 1;", "mirror z after 1 curve 9;", "mirror z after 1 flat;"):
            self.assertEqual(call(begun + rest, GREAT_START, 120), [-6])
            self.assertEqual(call(begun + rest + "surface y after 3 into a curve 1/7;", GREAT_START, 120), [-6])

    def test_edge_itself(self):
        edge = 2 ** 4096
        self.assertEqual(exact_text(edge - 1, 1), str(edge - 1))
        self.assertEqual(exact_text(1 - edge, 1), str(1 - edge))
        self.assertEqual(exact_text(1, edge - 1), f"1/{edge - 1}")
        self.assertEqual(exact_text(edge * 8, 16), str(edge // 2))
        self.assertEqual(exact_text(1 - edge, 2 ** 256), f"{1 - edge}/{2 ** 256}")
        for top, bottom in ((edge, 1), (-edge, 1), (1, edge), (edge * 4, 4), (edge + 1, 2 ** 256)):
            self.assertRaises(TooGreat, exact_text, top, bottom)

    def test_exact_texts(self):
        for top, bottom, said in ((0, 1, "0"), (0, 1024, "0"), (-6, 4, "-3/2"), (8, 4, "2"), (-8, 8, "-1"),
                                  (5, 16, "5/16"), (100, 1, "100")):
            self.assertEqual(exact_text(top, bottom), said)


class Order(unittest.TestCase):
    def test_not_taken_comes_first(self):
        faulty = "glass ?"
        self.assertEqual(call(faulty, "0 0 0 0", 8), [-3, 6, 1])
        self.assertEqual(call(faulty, "0 0 0 x", 8), [-1])
        self.assertEqual(call(faulty, "1/0 0 0 0", 8), [-1])
        self.assertEqual(call(faulty, "0 0 0 0", 257), [-1])
        self.assertEqual(call(faulty, "0 0 0 0", 8, 3), [-1])
        self.assertEqual(call("?" + " " * 65536, "0 0 0 0", 8), [-1])
        self.assertEqual(call("?" + " " * 65535, "0 0 0 0", 8), [-3, 0, 1])

    def test_too_great_comes_last(self):
        source = great_system(60)
        self.assertEqual(call(source, GREAT_START, 120), [-6])
        self.assertEqual(call(source + "?", GREAT_START, 120), [-3, len(source), 1])
        self.assertEqual(call(source, GREAT_START, 257), [-1])
        self.assertEqual(call(source, GREAT_START + "/0", 120), [-1])
        self.assertEqual(call(source + "?", GREAT_START, 120, 3), [-1])
