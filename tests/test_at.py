"""Where a ray comes to a plane: the document's example, every kind of element before the plane, and -5."""

import unittest
from fractions import Fraction

from tests.helper import call, call_at, reckon_at, said_at, text, told, told_at

LENS = "glass air:1,1,1;glass g:3/2,3/2,3/2;start air;surface a after 0 into g curve 1/10;"
OUT = "glass air:1,1,1;glass g:3/2,3/2,3/2;start g;surface a after 0 into air curve 1/10;"
MIRROR = "glass a:4/3,4/3,4/3;start a;mirror s0 after 0 flat;"
AIR = "glass air:1,1,1;start air;"
# Indexes such that the slope 3/4 in air is 5/12, 7/24, 8/15 in g.
LINES = "glass air:1,1,1;glass g:39/25,15/7,51/40;start air;"
SLOPES = (Fraction(5, 12), Fraction(7, 24), Fraction(8, 15))

FINE = (40, 100, 256)
WIDEST = 2 ** 60


class Planes(unittest.TestCase):
    def holds(self, system, start, z, x, y, line=0):
        """That x and y lie in what is told, narrowly at the greater finenesses; and swapped if the start is."""
        numbers = start.split(" ")
        swapped = " ".join([numbers[1], numbers[0], numbers[3], numbers[2]])
        for p in FINE:
            pairs = told_at(system, start, z, p, line)
            for pair, number in zip(pairs, (x, y)):
                self.assertLessEqual(pair[0], Fraction(number), (system, start, z))
                self.assertGreaterEqual(pair[1], Fraction(number), (system, start, z))
                self.assertLess(pair[1] - pair[0], Fraction(WIDEST, 2 ** p), (system, start, z))
            self.assertEqual(told_at(system, swapped, z, p, line), [pairs[1], pairs[0]])


class ARun(Planes):
    def test_flat_mirror(self):
        said = "101/1024 105/1024 9 9"
        self.assertEqual(call_at(MIRROR, "0 9 -1/10 0", "1", 10), [len(said)] + text(said))

    def test_the_same_mirror_finer(self):
        # The light goes from the mirror toward smaller z: the plane at 1 lies behind it on the line.
        self.holds(MIRROR, "0 9 -1/10 0", "1", Fraction(1, 10), 9)
        self.holds(MIRROR, "0 9 -1/10 0", "-1", Fraction(-1, 10), 9)

    def test_the_sphere(self):
        self.assertEqual(said_at(LENS, "0 0 0 0", "7", 4), "0 0 0 0")
        self.holds(LENS, "0 6 0 0", "2", 0, 6)
        for p in FINE:
            self.assertEqual(told_at(LENS, "0 6 0 0", "12", p)[0], (0, 0))
            for end in told_at(LENS, "0 6 0 0", "12", p)[1]:
                self.assertAlmostEqual(float(end), 3.63763, 5)

    def test_lost(self):
        for system, start in ((LENS, "0 11 0 0"), (OUT, "0 8 0 0"), (LENS[:-1] + " clear 5;", "0 6 0 0")):
            self.assertEqual(call_at(system, start, "1", 20), [-5])


class NoElement(Planes):
    def test_from_the_start(self):
        for z, x in (("4", 4), ("-4", -2), ("0", 1), ("1/3", Fraction(5, 4)), ("-0.8", Fraction(2, 5))):
            self.holds(AIR, "1 2 3/4 0", z, x, 2)
        self.holds(AIR, "1 2 2/3 -2/3", "3", 3, 0)
        self.holds(AIR, "1 2 2/3 -2/3", "-999999999999999", 1 - 666666666666666, 2 + 666666666666666)

    def test_still_at_the_start(self):
        # Rounded outward, though nothing is gone.
        for p, said in ((0, "0 1 -1 0"), (1, "0 1/2 -1/2 0"), (4, "5/16 3/8 -3/8 -5/16")):
            for z in ("0", "5", "-5"):
                self.assertEqual(said_at(AIR, "1/3 -1/3 0 0", z, p), said)
        self.assertEqual(said_at(AIR, "1 2 3/4 -4/3", "-0/7", 8), "1 1 2 2")

    def test_way_is_of_length_one(self):
        # Step by step: w is from 1 to 3/2 and the way's z from 1/2 to 1 at both; T is from 1 to 2, the way's x
        # from 0 to 1 and from 1/4 to 3/4.
        self.assertEqual(said_at(AIR, "0 0 3/4 0", "1", 1), "0 2 0 0")
        self.assertEqual(said_at(AIR, "0 0 3/4 0", "1", 2), "1/4 3/2 0 0")
        self.assertEqual(said_at(AIR, "0 0 3/4 0", "-1", 2), "-3/2 -1/4 0 0")


class Elements(Planes):
    def test_behind_a_stop(self):
        for z, x in (("0", 3), ("4", 6), ("-4", 0), ("-8", -3), ("1/3", Fraction(13, 4))):
            self.holds(AIR + "stop s after 4;", "0 0 3/4 0", z, x, 0)
            self.holds(AIR + "stop s after 4 clear 3.5;", "0 1 3/4 0", z, x, 1)
            self.holds(AIR + "stop r after 1;stop s after 3;", "0 0 3/4 0", z, x, 0)

    def test_behind_a_surface_in_each_line(self):
        for line, slope in enumerate(SLOPES):
            for z in ("0", "120", "-24", "7/5"):
                self.holds(LINES + "surface a after 4 into g flat;", "0 1 3/4 0", z, 3 + slope * Fraction(z), 1, line)

    def test_lines_of_the_medium(self):
        source = LINES.replace("start air", "start g") + "surface a after 24 into air flat;"
        for line, slope in enumerate(SLOPES):
            for z in ("0", "4", "-4"):
                self.holds(source, f"0 1 {slope} 0", z, 24 * slope + Fraction(3, 4) * Fraction(z), 1, line)

    def test_behind_one_mirror(self):
        source = AIR + "mirror m after 8 flat;"
        for z, x in (("0", 6), ("-4", 9), ("4", 3), ("-8", 12), ("8", 0), ("12", -3)):
            self.holds(source, "0 1 3/4 0", z, x, 1)

    def test_behind_two_mirrors_and_three(self):
        source = AIR + "mirror m after 8 flat;mirror n after 4 flat;"
        for z, x in (("0", 9), ("4", 12), ("-4", 6), ("-12", 0)):
            self.holds(source, "0 1 3/4 0", z, x, 1)
        for z, x in (("0", 12), ("4", 9), ("-4", 15)):
            self.holds(source + "mirror o after 4 flat;", "0 1 3/4 0", z, x, 1)

    def test_behind_a_mirror_and_a_stop(self):
        for z, x in (("0", 9), ("-4", 12), ("4", 6)):
            self.holds(AIR + "mirror m after 8 flat;stop s after 4;", "0 1 3/4 0", z, x, 1)

    def test_behind_a_mirror_and_a_surface(self):
        source = LINES + "mirror m after 8 flat;surface a after 4 into g flat;"
        for line, slope in enumerate(SLOPES):
            for z in ("0", "-24", "24"):
                self.holds(source, "0 1 3/4 0", z, 9 - slope * Fraction(z), 1, line)

    def test_parabola_mirror(self):
        source = AIR + "mirror m after 100 radius -10 conic -1;"
        for start in ("3 0 0 0", "0 -7 0 0", "2 5 0 0"):
            self.holds(source, start, "-5", 0, 0)
        # Between the vertex plane and the point, at the point, and the line drawn out toward greater z.
        for z, x in (("-1.8", 6), ("-8.2", -6), ("5", Fraction(75, 4)), ("0", Fraction(75, 8))):
            self.holds(source, "6 0 0 0", z, x, 0)

    def test_two_parabola_mirrors(self):
        source = AIR + "mirror m after 100 radius -10 conic -1;mirror n after 7 radius 4 conic -1;"
        for z in ("0", "3", "-9"):
            self.holds(source, "6 0 0 0", z, Fraction(-12, 5), 0)

    def test_from_the_last_vertex(self):
        # Neither from the start nor from the point, which lies at z = 2 by the vertex.
        for gap in ("0", "5", "1000"):
            source = AIR + f"surface a after {gap} into air curve 1/10;"
            self.holds(source, "0 6 0 0", "0", 0, 6)
            slanted = f"0 {Fraction(6) - (int(gap) + 2) * Fraction(3, 4)} 0 3/4"
            for z, y in (("2", 6), ("6", 9), ("-2", 3)):
                self.holds(source, slanted, z, 0, y)


class Finenesses(Planes):
    def test_coarsest(self):
        for system in (AIR, MIRROR, AIR + "stop s after 7/2 clear 9;", AIR + "surface a after 0 into air curve 1/10;"):
            for z in ("0", "3", "-3/7"):
                self.assertEqual(said_at(system, "0 0 0 0", z, 0), "0 0 0 0")
        self.assertEqual(said_at(MIRROR, "0 9 0 0", "1", 0), "0 0 9 9")
        self.assertEqual(said_at(AIR + "stop s after 7/2;", "1/3 -1/3 0 0", "2", 0), "0 1 -1 0")

    def test_narrower_from_fineness_to_fineness(self):
        source = ("glass a:1,1,1;glass b:1.5168,1.52,1.51;start a;surface s after 3 into b radius 50;"
                  "surface t after 5 into a radius -50 conic -3/2;mirror m after 70 radius -90 clear 30;")
        last = None
        for p in (24, 32, 64, 128, 256):
            pairs = told_at(source, "3 4 1/50 -1/70", "-40", p)
            self.assertEqual(pairs, reckon_at(source, "3 4 1/50 -1/70", "-40", p))
            width = max(pair[1] - pair[0] for pair in pairs)
            self.assertLess(width, Fraction(2 ** 20, 2 ** p))
            self.assertTrue(last is None or width < last)
            last = width


class NotThrough(unittest.TestCase):
    def lost(self, system, start, p, ending, passed=0):
        """That it ends so at an element, and at answers -5 wherever the plane is."""
        self.assertEqual(call(system, start, p)[1:3], [passed, ending], system)
        for z in ("0", "1", "-1", "999999999999999999"):
            self.assertEqual(call_at(system, start, z, p), [-5], system)

    def test_misses(self):
        for p in (8, 40, 256):
            self.lost(LENS, "0 11 0 0", p, 1)
            self.lost(AIR + "mirror m after 0 flat;mirror n after 3 radius 1;", "5 0 0 0", p, 1, 1)

    def test_blocked(self):
        for p in (0, 8, 256):
            self.lost(AIR + "stop s after 1 clear 5;", "4 4 0 0", p, 2)
            self.lost(AIR + "mirror m after 1 flat;stop s after 1 clear 5;stop t after 1;", "-6 0 0 0", p, 2, 1)

    def test_thrown_back(self):
        for p in (20, 256):
            self.lost(OUT, "0 8 0 0", p, 3)
            self.lost(LENS + "surface b after 1 into air curve -1/4;", "0 3 0 0", p, 3, 1)

    def test_left_open_at_an_element(self):
        for p in (0, 8, 256):
            self.lost(LENS, "0 10 0 0", p, 4)
        self.lost(AIR + "stop s after 1 clear 1;", "0 0 1 0", 200, 4)
        self.lost(AIR + "stop s after 7/2;", "0 0 1 0", 0, 4)
        self.lost(MIRROR + "surface b after 1 into a curve 1/9;", "0 9 0 0", 33, 4, 1)

    def test_left_open_at_the_plane(self):
        # 1 by the root of 2 lies between 0 and 1 at p = 0.
        self.assertEqual(call(AIR, "1 2 1 0", 0), [0, 0, 0])
        for z in ("0", "1", "-7/2"):
            self.assertEqual(call_at(AIR, "1 2 1 0", z, 0), [-5])
            self.assertEqual(len(told_at(AIR, "1 2 1 0", z, 1)), 2)
        # The root of 9/4 lies between 1 and 2 there, which leaves the way's z between 0 and 2.
        self.assertEqual(call(LENS, "0 0 0 0", 0)[1:3], [1, 0])
        self.assertEqual(call_at(LENS, "0 0 0 0", "1", 0), [-5])

    def test_along_the_plane(self):
        # This mirror turns the ray just across the axis: it gets through, but comes to no plane.
        source = AIR + "mirror m after 3 radius -10 conic -1;"
        for p in (0, 1, 60, 256):
            answer = call(source, "10 0 0 0", p)
            self.assertEqual(answer[1:3], [1, 0])
            for z in ("0", "-5", "5"):
                self.assertEqual(call_at(source, "10 0 0 0", z, p), [-5])
        self.assertEqual(len(told_at(source, "9.999 0 0 0", "-5", 60)), 2)

    def test_end_of_the_way_just_0(self):
        # The way's z is from 0 to 1/2 at p = 1, from 1/4 to 1/2 at p = 2.
        self.assertEqual(call_at(AIR, "0 0 0 3", "1", 1), [-5])
        self.assertEqual(len(told_at(AIR, "0 0 0 3", "1", 2)), 2)
        for shape, start, p, low, high in (("0 curve -1/17", "18 0 0 0", 4, 0, Fraction(1, 8)),
                                           ("1 curve -1/16", "12 0 0 0", 2, Fraction(-1, 2), 0)):
            source = AIR + f"mirror m after {shape} conic -1;"
            self.assertEqual(told(source, start, p).rays[0][5], (low, high))
            for z in ("0", "-3", "3"):
                self.assertEqual(call_at(source, start, z, p), [-5])

    def test_mirror_that_sends_light_on(self):
        # Behind it the way's z is above 0 again though the light's sign is below: the plane is come to.
        source = AIR + "mirror m after 3 radius -10 conic -1;"
        self.assertEqual(len(told_at(source, "12 0 0 0", "-5", 60)), 2)
        for pair in told_at(source, "12 0 0 0", "-5", 60):
            self.assertTrue(pair[0] <= 0 <= pair[1])
