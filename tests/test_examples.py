"""What the document's run tells of trace, and what any kind of element does to a ray."""

import unittest
from fractions import Fraction

from tests.helper import call, told

LENS = "glass air:1,1,1;glass g:3/2,3/2,3/2;start air;surface a after 0 into g curve 1/10;"
OUT = "glass air:1,1,1;glass g:3/2,3/2,3/2;start g;surface a after 0 into air curve 1/10;"
MIRROR = "glass a:4/3,4/3,4/3;start a;mirror s0 after 0 flat;"
AIR = "glass air:1,1,1;start air;"
TWO = "glass air:1,1,1;glass g:3/2,2,5/2;start air;"

RIMS = (("5 curve -1/5", "-8/3 0 9/2 0", 3), ("1/2 curve -1 conic 1", "0 0 -5/2 0", 3),
        ("3 curve -1/5 conic 1", "-1 0 -9/4 0", 3), ("2 curve -1/2", "-4/3 0 -3 0", 2))


class Rays(unittest.TestCase):
    def holds(self, answer, element, numbers):
        """That the element's intervals hold the six numbers, and are narrow."""
        for pair, number in zip(answer.rays[element], numbers):
            if number is not None:
                self.assertLessEqual(pair[0], Fraction(number))
                self.assertGreaterEqual(pair[1], Fraction(number))
                self.assertLess(pair[1] - pair[0], Fraction(1, 1000))


class ARun(Rays):
    def test_along_the_axis(self):
        said = "0 0 0 0 0 0 0 0 0 0 1 1"
        self.assertEqual(call(LENS, "0 0 0 0", 4), [len(said), 1, 0] + [ord(sign) for sign in said])

    def test_through_the_sphere(self):
        for p in (20, 64, 256):
            answer = told(LENS, "0 6 0 0", p)
            self.assertEqual((answer.passed, answer.ending), (1, 0))
            self.holds(answer, 0, (0, 6, 2, 0, None, None))
            way = answer.rays[0]
            self.assertAlmostEqual(float(way[4][0]), -0.2299, 4)
            self.assertAlmostEqual(float(way[5][1]), 0.9732, 4)

    def test_misses(self):
        self.assertEqual(call(LENS, "0 11 0 0", 20), [0, 0, 1])

    def test_thrown_back(self):
        self.assertEqual(call(OUT, "0 8 0 0", 20), [0, 0, 3])
        self.assertEqual(told(OUT, "0 6 0 0", 20).ending, 0)

    def test_blocked(self):
        self.assertEqual(call(LENS[:-1] + " clear 5;", "0 6 0 0", 20), [0, 0, 2])

    def test_flat_mirror(self):
        answer = told(MIRROR, "0 9 -1/10 0", 10)
        self.assertEqual((answer.passed, answer.ending), (1, 0))
        self.assertEqual(answer.text, "0 0 9 9 0 0 -103/1024 -101/1024 0 0 -1 -1015/1024")


class Endings(Rays):
    def test_grazing_is_left_open_not_lost(self):
        for p in (0, 8, 256):
            self.assertEqual(call(LENS, "0 10 0 0", p), [0, 0, 4])
            self.assertEqual(call(AIR + "stop s after 1 clear 3;", "3 0 0 0", p)[2], 0)
        self.assertEqual(call(AIR + "stop s after 1 clear 1;", "0 0 1 0", 200), [0, 0, 4])

    def test_critical_angle_is_left_open(self):
        source = "glass a:1,1,1;glass b:5/3,5/3,5/3;start b;surface s after 1 into a flat;"
        self.assertEqual(call(source, "0 0 3/4 0", 100), [0, 0, 4])
        self.assertEqual(call(source, "0 0 749/1000 0", 100)[1:3], [1, 0])
        self.assertEqual(call(source, "0 0 751/1000 0", 100), [0, 0, 3])

    def test_ends_at_a_later_element(self):
        begun = TWO + "surface a after 1 into g flat;"
        for rest, ending in (("", 0), ("surface b after 1 into air radius -2;", 1),
                             ("stop b after 1 clear 2;", 2),
                             ("surface b after 1 into air curve 29/100;", 3),
                             ("surface b after 1 into air curve -1/3;", 4)):
            answer = told(begun + rest, "0 3 0 0", 40)
            self.assertEqual((answer.passed, answer.ending), (1, ending), rest)
            self.assertEqual(answer.text, "0 0 3 3 0 0 0 0 0 0 1 1")

    def test_no_element(self):
        for p in (0, 17, 256):
            self.assertEqual(call(AIR, "1 2 3 4", p), [0, 0, 0])

    def test_coarsest(self):
        self.assertEqual(told(AIR + "stop s after 7/2;", "1/3 -1/3 0 0", 0).text, "0 1 -1 0 -1 1 0 0 0 0 1 1")
        self.assertEqual(call(AIR + "stop s after 7/2;", "0 0 1 0", 0), [0, 0, 4])


class Elements(Rays):
    def test_lines(self):
        # Flat glass: the way's x is the slope's sine by the index.
        for line, index in enumerate((Fraction(3, 2), 2, Fraction(5, 2))):
            answer = told(TWO + "surface a after 4 into g flat;", "0 0 3/4 0", 60, line)
            sine = Fraction(3, 5) / index
            self.holds(answer, 0, (3, 0, 0, sine, 0, None))

    def test_lines_at_the_start(self):
        source = "glass b:2,3,4;glass air:1,1,1;start b;surface a after 0 into air flat;"
        for line, index in enumerate((2, 3, 4)):
            answer = told(source, "0 0 0 7/24", 60, line)
            if Fraction(7, 25) * index < 1:
                self.holds(answer, 0, (0, 0, 0, 0, Fraction(7, 25) * index, None))
            else:
                self.assertEqual(answer.ending, 3)

    def test_slopes_are_not_the_way(self):
        self.holds(told(AIR + "stop s after 3;", "0 0 3/4 0", 60), 0,
                   (Fraction(9, 4), 0, 0, Fraction(3, 5), 0, Fraction(4, 5)))
        self.holds(told(AIR + "stop s after 3;", "0 0 2/3 -2/3", 60), 0, (2, -2, 0, None, None, None))

    def test_gap_behind_a_mirror(self):
        source = AIR + "mirror m after 8 flat;stop s after 4;mirror n after 4 flat;stop t after 8;"
        answer = told(source, "0 0 3/4 0", 60)
        self.assertEqual((answer.passed, answer.ending), (4, 0))
        self.holds(answer, 0, (6, 0, 0, Fraction(3, 5), 0, Fraction(-4, 5)))
        self.holds(answer, 1, (9, 0, 0, Fraction(3, 5), 0, Fraction(-4, 5)))
        self.holds(answer, 2, (12, 0, 0, Fraction(3, 5), 0, Fraction(4, 5)))
        self.holds(answer, 3, (18, 0, 0, Fraction(3, 5), 0, Fraction(4, 5)))

    def test_parabola_mirror_brings_to_the_focus(self):
        # Centre of curvature toward smaller z: light along the axis comes to z = -5.
        source = AIR + "mirror m after 100 radius -10 conic -1;stop f after 5 clear 1/1000;"
        for start in ("3 0 0 0", "0 -7 0 0", "2 5 0 0"):
            answer = told(source, start, 80)
            self.assertEqual((answer.passed, answer.ending), (2, 0))
            self.holds(answer, 1, (0, 0, 0, None, None, None))

    def test_surface_behind_a_mirror(self):
        source = TWO + "mirror m after 8 flat;surface a after 4 into g flat;"
        answer = told(source, "0 0 3/4 0", 60)
        self.holds(answer, 1, (9, 0, 0, Fraction(2, 5), 0, None))
        self.assertLess(answer.rays[1][5][1], 0)
        away = told(TWO + "mirror m after 8 flat;surface a after 4 into g curve -1/10;", "0 6 0 0", 60)
        self.holds(away, 1, (0, 6, -2, 0, None, None))
        self.assertAlmostEqual(float(away.rays[1][4][0]), -0.2299, 4)
        self.assertAlmostEqual(float(away.rays[1][5][0]), -0.9732, 4)

    def test_near_side_of_the_sphere(self):
        for curve, depth in (("curve 1/10", 2), ("curve -1/10", -2), ("radius 10", 2), ("radius -10", -2)):
            answer = told(TWO + f"surface a after 0 into g {curve};", "0 6 0 0", 60)
            self.holds(answer, 0, (0, 6, depth, 0, None, None))

    def test_far_side_alone_is_a_miss(self):
        # From within the half by the vertex, the line comes to the vertex's half sideways only beyond its rim.
        self.assertEqual(call(AIR + "mirror m after 0 flat;mirror n after 3 radius 1;", "5 0 0 0", 60)[1:3], [1, 1])

    def test_point_behind_the_vertex_plane(self):
        # It starts in the vertex plane; the shell lies at smaller z there.
        answer = told(TWO + "surface a after 0 into g radius -5;", "3 0 0 0", 60)
        self.holds(answer, 0, (3, 0, -1, None, 0, None))

    def test_hyperbola(self):
        # c = 1, k = -2: z = -1 + sqrt(1 + x x) by the vertex; the other sheet begins at z = -2.
        source = TWO + "surface a after 0 into g curve 1 conic -2;"
        self.holds(told(source, "3/4 0 0 0", 60), 0, (Fraction(3, 4), 0, Fraction(1, 4), None, 0, None))
        self.holds(told(source, "0 -3/4 0 0", 60), 0, (0, Fraction(-3, 4), Fraction(1, 4), 0, None, None))
        # The line x = 10 (z + 3) meets the other sheet twice, and this one nowhere.
        self.assertEqual(call(TWO + "surface a after 3 into g curve 1 conic -2;", "0 0 10 0", 60), [0, 0, 1])
        # x = (z + 3) / 2 meets both: told is the point on this one.
        both = told(TWO + "surface a after 3 into g curve 1 conic -2;", "0 0 1/2 0", 60)
        self.assertGreater(both.rays[0][2][0], 0)

    def test_ellipse(self):
        # c = 1/2, k = 3: x x + 4 z z = 4 z: half axes 1 (x) and 1/2 (z).
        source = TWO + "surface a after 0 into g curve 1/2 conic 3;"
        self.holds(told(source, "3/5 0 0 0", 60), 0, (Fraction(3, 5), 0, Fraction(1, 10), None, 0, None))
        self.assertEqual(call(source, "6/5 0 0 0", 60), [0, 0, 1])

    def test_curve_of_0_is_flat(self):
        for curve in ("curve 0", "curve -0", "curve 0/7 conic -5", "flat conic 3"):
            same = call(TWO + f"surface a after 1/3 into g {curve};", "1 2 1/3 1/7", 33)
            self.assertEqual(same, call(TWO + "surface a after 1/3 into g flat;", "1 2 1/3 1/7", 33))

    def test_clear_is_round(self):
        for source in ("stop s after 1 clear 5;", "mirror s after 1 flat clear 5.0;",
                       "surface s after 1 into air flat clear 10/2;"):
            for start, ending in (("3 4 0 0", 0), ("-4 -3 0 0", 0), ("4 4 0 0", 2), ("0 5.01 0 0", 2),
                                  ("-5.01 0 0 0", 2), ("4.9 -1.1 0 0", 2)):
                self.assertEqual(call(AIR + source, start, 30)[2], ending)

    def test_clear_counts_at_the_point(self):
        self.assertEqual(call(AIR + "stop s after 1 clear 5;", "5 0 1/4 0", 30), [0, 0, 2])
        self.assertEqual(call(AIR + "stop s after 1 clear 5;", "6 0 -2 0", 30)[1:3], [1, 0])

    def test_no_clear(self):
        self.assertEqual(call(AIR + "stop s after 1;", "999999999999999999 0 0 0", 30)[1:3], [1, 0])

    def test_stop_leaves_the_way(self):
        answer = told(TWO + "surface a after 1 into g curve 1/9;stop s after 2 clear 9;stop t after 2;", "1 2 0 0", 50)
        self.assertEqual(answer.rays[0][3:], answer.rays[1][3:])
        self.assertEqual(answer.rays[1][3:], answer.rays[2][3:])

    def test_starts_on_the_far_side(self):
        # There G + W is 0, and the other way to T is gone.
        answer = told(AIR + "mirror m after 20 radius -10;", "0 0 0 0", 9)
        self.assertEqual((answer.passed, answer.ending, answer.text), (1, 0, "0 0 0 0 0 0 0 0 0 0 -1 -1"))
        self.assertEqual(told(AIR + "mirror m after 2 curve -1;", "0 0 0 0", 9).text, answer.text)
        behind = told(AIR + "mirror m after 4 flat;mirror n after 2 curve 1;", "0 0 0 0", 9)
        self.assertEqual((behind.passed, behind.ending), (2, 0))
        self.assertEqual(behind.text, "0 0 0 0 0 0 0 0 0 0 -1 -1 0 0 0 0 0 0 0 0 0 0 1 1")
        slanted = told(AIR + "mirror m after 20 radius -10;", "0 0 3/4 0", 80)
        self.holds(slanted, 0, (Fraction(48, 5), 0, Fraction(-36, 5), None, 0, None))

    def test_rim_is_missed(self):
        # What stands across has no z there: its upper end is just 0.
        self.assertEqual(call(AIR + "mirror m after 1 curve -1;", "1 0 3/2 0", 5), [0, 0, 1])
        self.assertEqual(call(AIR + "mirror m after 1/2 curve -1/2 conic 3;", "1 0 8 0", 5), [0, 0, 1])
        self.assertEqual(call(AIR + "mirror m after 3 curve -1/5 conic 1;", "9/4 0 7 0", 3), [0, 0, 1])

    def test_near_the_rim_is_left_open(self):
        # Its lower end is just 0.
        for shape, start, p in RIMS:
            self.assertEqual(call(AIR + f"mirror m after {shape};", start, p), [0, 0, 4])
