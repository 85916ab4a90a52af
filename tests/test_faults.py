"""The faults of a system's text: which one is told, and its place.

Each row's text has one sign ` ahead of the place that is to be told (it's taken out).
"""

import random
import unittest

from tests.helper import call, first_fault, made_system

GLASS = "glass a:1,1,1;"
START = GLASS + "start a;"


def answer(source):
    return call(source, "0 0 0 0", 8)


class Marked(unittest.TestCase):
    def faults(self, kind, rows):
        for row in rows:
            place = row.index("`")
            source = row.replace("`", "")
            self.assertEqual(answer(source), [-3, place, kind], source)
            self.assertEqual(first_fault(source), (place, kind), source)

    def good(self, rows):
        for source in rows:
            self.assertIsNone(first_fault(source), source)
            self.assertGreaterEqual(answer(source)[0], 0, source)


class Good(Marked):
    def test_blanks_and_comments(self):
        self.good((
            START, " \t\r\n" + START + " \t\r\n", "#\n" + START + "#", START + "# ?!\u00e4 glass 1.2.3",
            "# glass\nglass#x\na#y\n:#\n1#1\n,1,#\n#\n1;start a;", "glass\ta\r:\n1 , 1 , 1 ; start a ;",
            GLASS + "start a;#\n#\n\n", "glass a:1#c\n/#c\n1,1,1;start a;",
        ))

    def test_each_form(self):
        self.good((
            START + "surface b after 0 into a flat;", START + "surface b after 1/2 into a curve -1/2 conic -2 clear 3;",
            START + "mirror b after 0.5 radius - 3 / 4 clear 1.5;", START + "mirror b after 3 radius 1 conic 0;",
            START + "stop b after 1;", START + "stop b after 1 clear 0.1;", START + "stop b after 0/1 clear 1/1000;",
            START + "mirror b after 0 curve 0;mirror c after 0 curve -0.0;", "glass a:1.0,2/2,1;start a;",
            "glass a:1,1,1;glass b:1,1,1;start b;", START + "stop a after 0;",
            START + "stop Stop after 0;stop STOP after 0;stop stop_ after 0;stop stops after 0;stop _ after 0;",
            START + "stop A after 0;stop a after 0;", START + "mirror b after 0 flat conic -5 clear 2;",
        ))

    def test_lengths(self):
        name = "n" * 32
        self.good((
            f"glass {name}:1,1,1;start {name};", START + f"stop _{'9' * 31} after 0;",
            "glass a:" + "9" * 18 + ",1,1;start a;", "glass a:1." + "0" * 17 + ",1,1;start a;",
            "glass a:" + "0" * 17 + "1,1,1;start a;", "glass a:" + "9" * 18 + "/" + "9" * 18 + ",1,1;start a;",
        ))


class NoToken(Marked):
    def test_signs(self):
        self.faults(1, ("`?", "glass `!", START + "`.", START + "`+", START + " `\"", "glass a`=", START + "`\x00",
                        START + "`\u00ff", START + "`\u00e9", START + "`\x0b", START + "`\x0c", START + "`\u00a0",
                        "glass a:1,1,1;start a`.;", "glass a:`.5,1,1;"))

    def test_every_byte(self):
        for byte in range(256):
            source = START + chr(byte)
            if byte in (9, 10, 13, 32, 35):
                self.assertEqual(answer(source), [0, 0, 0])
            else:
                letter = 65 <= byte <= 90 or 97 <= byte <= 122 or byte == 95
                token = letter or 48 <= byte <= 57 or chr(byte) in ":,;/-"
                self.assertEqual(answer(source), [-3, len(START), 2 if token else 1], byte)

    def test_long_names(self):
        self.faults(1, (f"glass `{'n' * 33}:1,1,1;", f"glass `_{'9' * 32}:", f"`{'glass' * 7}",
                        GLASS + f"start `{'a' * 40};", f"`{'x' * 33}"))

    def test_bad_numbers(self):
        self.faults(1, ("glass a:`1.,1,1;", "glass a:`1.", "glass a:`1..2,", "glass a:`1.2.3,", "glass a:`1.2.",
                        "glass a:`1x,", "glass a:`1_,", "glass a:`1.2x,", "glass a:`1.2_3,", "glass a:`1.x,",
                        "glass a:`" + "9" * 19 + ",", "glass a:`" + "0" * 19 + ",", "glass a:`1." + "0" * 18 + ",",
                        "glass a:`" + "1" * 18 + ".5,", "glass a:1/`" + "9" * 19 + ",", "glass a:`1e5,",
                        "glass a:`0x10,", "glass `1a:", "`1.", "`" + "1" * 33, "glass a:`" + "1" * 32 + "x,",
                        START + "stop b after `5.;", START + "stop b after `5.#\n"))

    def test_numbers_closed_by_other_signs(self):
        self.faults(2, ("glass a:1`-1,1;", "glass a:1`:1,1;", "glass a:1#\n`1,1,1;", "glass a:1.5`-"))
        self.faults(1, ("glass a:1`(", "glass a:1`\u00e9"))

    def test_nothing_behind_is_looked_at(self):
        self.faults(1, (START + "`?stop b after 0;stop b after 0;", "glass a:`1.,0,0;start nobody;"))

    def test_another_fault_ahead_is_told(self):
        self.faults(2, ("glass `glass ?", "glass a:1 `1 ?", "`a ?", START + "stop b `into 1. ?"))
        self.faults(3, (GLASS + "glass `a ?",))
        self.faults(4, (GLASS + "start `b?",))
        self.faults(6, ("glass a:1/`0?", "glass a:0`,?"))


class CannotStand(Marked):
    def test_the_end(self):
        self.faults(2, ("`", " \n`", "# nothing`", "#\n`", "glass`", "glass `", "glass a`", "glass a:`", "glass a:1`",
                        "glass a:1/`", "glass a:1.5`", "glass a:1,`", "glass a:1,1,1`", "glass a:1,1,1;`", GLASS + "start`",
                        GLASS + "start a`", GLASS + "start a  # ;`", START + "surface`", START + "surface b`",
                        START + "surface b after`", START + "surface b after 0`", START + "surface b after 0 into`",
                        START + "surface b after 0 into a`", START + "surface b after 0 into a flat`",
                        START + "surface b after 0 into a curve`", START + "surface b after 0 into a curve -`",
                        START + "surface b after 0 into a curve 1 conic`", START + "mirror b after 0 flat clear`",
                        START + "mirror b after 0 flat clear 5`", START + "stop b after 0`", START + "stop b after 0\n`"))
        self.faults(6, ("glass a:1/2 `, 3, 4;start a;",))

    def test_wrong_tokens(self):
        self.faults(2, (
            "`start a;", "`surface b after 0 into a flat;", "`;", "`a", "`1", "`-", "glass `1", "glass `glass:1,1,1;",
            "glass a`,", "glass a:`-1,1,1;", "glass a:1`;", "glass a:1,1`;", "glass a:1,1,1`,", "glass a:1,1,1 `start",
            "glass a:1/`1.0,1,1;", "glass a:1/`-1,", "glass a:1.0`/2,", "glass a:1/2`/2,", "glass a:1 `2,",
            "glass a:`b,", GLASS + "`stop s after 0;", GLASS + "`;", GLASS + "start `start;", GLASS + "start a`:",
            GLASS + "start `1;", START + "`glass b:1,1,1;", START + "`start a;", START + "`b", START + "`;",
            START + "surface `after 0", START + "surface `1", START + "surface b `0", START + "surface b after `-1",
            START + "surface b after 0 `flat", START + "surface b after 0 into `flat",
            START + "surface b after 0 into a `;", START + "surface b after 0 into a `clear 1;",
            START + "surface b after 0 into a `conic 1;", START + "surface b after 0 into a flat `1;",
            START + "surface b after 0 into a flat `curve 1;", START + "surface b after 0 into a curve - `- 1;",
            START + "surface b after 0 into a curve `;", START + "surface b after 0 into a flat clear 1 `conic 1;",
            START + "surface b after 0 into a flat clear `-1;", START + "surface b after 0 into a flat conic 1 `conic 1;",
            START + "mirror b after 0 `into a flat;", START + "mirror b after 0`;", START + "mirror b after 0 flat`:",
            START + "stop b after 0 `flat;", START + "stop b after 0 `conic 1;", START + "stop b after 0 clear 1 `clear 1;",
            START + "stop b after 0 clear `;", START + "stop b after 0 clear 1`,", START + "stop b after 0;`;",
        ))

    def test_words_are_never_names(self):
        words = "after clear conic curve flat glass into mirror radius start stop surface".split(" ")
        for word in words:
            self.faults(2, (f"glass `{word}:1,1,1;", START + f"stop `{word} after 0;", GLASS + f"start `{word};"))
            self.good((f"glass {word}s:1,1,1;start {word}s;", f"glass {word.upper()}:1,1,1;start {word.upper()};"))


class Names(Marked):
    def test_name_twice(self):
        self.faults(3, (GLASS + "glass `a:1,1,1;", GLASS + "glass b:1,1,1;glass `a", START + "stop b after 0;stop `b",
                        START + "stop b after 0;mirror c after 0 flat;surface `b after 0 into a flat;",
                        START + f"stop {'n' * 32} after 0;stop `{'n' * 32} after 0;"))
        self.good((f"glass {'n' * 32}:1,1,1;glass {'n' * 31}:1,1,1;glass N:1,1,1;start N;",))

    def test_an_element_may_be_called_like_a_glass(self):
        self.good((START + "stop a after 0;mirror b after 0 flat;",))

    def test_no_such_glass(self):
        self.faults(4, (GLASS + "start `b;", GLASS + "start `A;", START + "surface b after 0 into `b flat;",
                        START + "surface b after 0 into `c ?", START + "stop s after 0;surface b after 0 into `s flat;"))


class Counts(Marked):
    def test_glasses(self):
        many = "".join(f"glass g{k}:1,1,1;" for k in range(64))
        self.good((many + "start g63;",))
        self.faults(5, (many + "`glass g64:1,1,1;start g63;", many + "`glass", many + "`glass ?",
                        many + "`glass g0:1,1,1;"))
        self.faults(2, (many + "`stop",))

    def test_elements(self):
        kinds = ("stop e{} after 0;", "mirror e{} after 0 flat;", "surface e{} after 0 into a flat;")
        many = START + "".join(kinds[k % 3].format(k) for k in range(64))
        self.good((many,))
        self.faults(5, (many + "`stop e64 after 0;", many + "`mirror", many + "`surface ?", many + "`stop e0 after 0;"))
        self.faults(2, (many + "`glass", many + "`e0"))


class Numbers(Marked):
    def test_zero_below(self):
        self.faults(6, ("glass a:1/`0,1,1;", "glass a:0/`0,1,1;", "glass a:1/`000", "glass a:1 / `0 ?",
                        START + "stop b after 1/`0;", START + "stop b after 1 clear 1/`0;",
                        START + "mirror b after 1 radius -1/`0;", START + "mirror b after 1 flat conic 1/`0;",
                        START + "mirror b after 1 curve 0/`0;"))

    def test_index_below_1(self):
        self.faults(6, ("glass a:0`,1,1;", "glass a:1/2 `,1,1;", "glass a:1,0.999`,1;", "glass a:1,1,0.5 # c\n `;",
                        "glass a:" + "9" * 17 + "8/" + "9" * 18 + "`,", "glass a:0." + "9" * 17 + "`,", "glass a:0/5`,0",
                        "glass b:2,2,2;glass a:1,1,0`;"))
        self.good(("glass a:1,1.0,3/3;start a;",))

    def test_radius_of_0(self):
        begun = START + "mirror b after 1 radius "
        self.faults(6, (begun + "0`;", begun + "-0 `;", begun + "0.00 `conic 1;", begun + "-0/3 `clear 1;",
                        begun + "0 `clear 0;"))
        self.good((begun + "0.0001;", begun + "-1/999999999999999999;"))

    def test_clear_of_0(self):
        self.faults(6, (START + "stop b after 0 clear 0`;", START + "stop b after 0 clear 0.0 `;",
                        START + "mirror b after 0 flat clear 0/9\n`;", START + "surface b after 0 into a flat clear 0`;"))

    def test_lesser_faults_at_the_same_place(self):
        self.faults(1, ("glass a:0`?", "glass a:1/2 `\u00e9", START + "mirror b after 1 radius 0 `?",
                        START + "stop b after 0 clear 0 `1.", "glass a:1/`0.", "glass a:1/`0x"))
        self.faults(2, ("glass a:0`;", "glass a:0`", "glass a:0  `", "glass a:0 `0,", "glass a:0.5`/2,",
                        START + "mirror b after 1 radius 0`", START + "mirror b after 1 radius 0 `into",
                        START + "mirror b after 1 radius -0 `1", START + "stop b after 0 clear 0 `conic",
                        START + "stop b after 0 clear 0`", "glass a:1/`0.0,", "glass a:1,1,0`,"))

    def test_zero_as_a_gap_a_curve_or_a_conic(self):
        self.good((START + "mirror b after 0 curve 0 conic 0;", START + "mirror b after 0.0 curve -0 conic -0/1;"))


PIECES = ("glass", "start", "stop", "surface", "mirror", "after", "into", "flat", "curve", "radius", "conic", "clear",
          "g0", "g1", "e0", "e1", "x", ":", ",", ";", "/", "-", "0", "1", "1/2", "0.5", "1.", "0/0", "1/0", " ", "#", "\n",
          "?", "9" * 18, "9" * 19, "n" * 32, "n" * 33, "\u00fc")


def spoiled(made, source):
    for k in range(made.randrange(1, 3)):
        place = made.randrange(len(source) + 1)
        behind = min(len(source), place + made.choice((0, 0, 1, 1, 2, 6)))
        piece = made.choice(PIECES + ("",) * 8)
        space = made.choice(("", " "))
        source = source[:place] + space + piece + space + source[behind:]
    return source[:made.randrange(len(source) + 1)] if made.random() < 0.1 else source


class MadeUp(unittest.TestCase):
    def test_spoiled_texts(self):
        made = random.Random(20)
        kinds = {}
        for turn in range(3000):
            source = spoiled(made, made_system(made, False))
            fault = first_fault(source)
            said = answer(source)
            kinds[fault and fault[1]] = True
            if fault is None:
                self.assertGreaterEqual(said[0], 0, source)
            else:
                self.assertEqual(said, [-3, fault[0], fault[1]], source)
        self.assertEqual(sorted(kinds, key=str), [1, 2, 3, 4, 6, None])
