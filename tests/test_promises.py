"""Promises 2, 3 and 4 on systems made up, and that the steps are the document's to the last bit."""

import random
import unittest
from fractions import Fraction

from enclosedrays.intervals import Interval, outward, over, root, square, times
from tests.helper import Reckoning, Span, Unsure, made_plane, made_start, made_system, reckon, reckon_at, told, told_at
from tests.helper import true_at, true_ray

TRUE_WITHIN = Fraction(1, 10 ** 90)
FINENESSES = (0, 1, 2, 5, 12, 33, 100, 256)


def made_up(seed, turns, wild):
    made = random.Random(seed)
    for turn in range(turns):
        yield made_system(made, wild), made_start(made, wild), made.randrange(3)


class Steps(unittest.TestCase):
    def test_to_the_last_bit(self):
        for wild in (False, True):
            for system, start, line in made_up(1, 250, wild):
                for p in FINENESSES:
                    answer = told(system, start, p, line)
                    self.assertEqual((answer.rays, answer.ending), reckon(system, start, p, line), (system, start, p))
                    self.assertEqual(answer.passed, len(answer.rays))

    def test_told_are_whole_multiples_in_least_terms(self):
        for system, start, line in made_up(2, 60, False):
            for p in (0, 7, 80):
                answer = told(system, start, p, line)
                ends = [end for ray in answer.rays for pair in ray for end in pair]
                self.assertEqual(answer.text, " ".join(str(end) for end in ends))
                self.assertTrue(all(end * 2 ** p == int(end * 2 ** p) for end in ends))


class PromiseTwo(unittest.TestCase):
    def check(self, system, start, line, p, rays, ending):
        answer = told(system, start, p, line)
        self.assertLessEqual(answer.passed, len(rays))
        for got, ray in zip(answer.rays, rays):
            for pair, number in zip(got, ray):
                self.assertLessEqual(pair[0], Fraction(number) + TRUE_WITHIN, (system, start, p))
                self.assertGreaterEqual(pair[1], Fraction(number) - TRUE_WITHIN, (system, start, p))
        if answer.ending != 4:
            self.assertEqual((answer.passed, answer.ending), (len(rays), ending), (system, start, p))

    def test_the_ray_lies_in_what_is_told(self):
        endings = []
        for wild in (False, True):
            for system, start, line in made_up(3, 250, wild):
                try:
                    rays, ending = true_ray(system, start, line)
                except Unsure:
                    continue
                endings.append(ending)
                for p in FINENESSES:
                    self.check(system, start, line, p, rays, ending)
        for ending in range(4):
            self.assertGreater(endings.count(ending), 5)


class PromiseThree(unittest.TestCase):
    def test_finenesses_agree(self):
        for system, start, line in made_up(4, 200, False):
            answers = [told(system, start, p, line) for p in FINENESSES]
            for one in answers:
                for other in answers:
                    for a, b in zip(one.rays, other.rays):
                        self.assertTrue(all(i[0] <= j[1] and j[0] <= i[1] for i, j in zip(a, b)), (system, start))
                    if 4 not in (one.ending, other.ending):
                        self.assertEqual((one.passed, one.ending), (other.passed, other.ending), (system, start))


class PromiseFour(unittest.TestCase):
    def test_told_whole_and_narrow(self):
        whole = 0
        for system, start, line in made_up(5, 200, False):
            try:
                rays, ending = true_ray(system, start, line)
            except Unsure:
                continue
            answer = told(system, start, 256, line)
            whole += answer.ending != 4
            widths = [pair[1] - pair[0] for ray in answer.rays for pair in ray]
            self.assertLess(max(widths, default=0), Fraction(1, 2 ** 180), (system, start))
        self.assertGreater(whole, 190)

    def test_narrower_from_fineness_to_fineness(self):
        system = ("glass a:1,1,1;glass b:1.5168,1.52,1.51;start a;surface s after 3 into b radius 50;"
                  "surface t after 5 into a radius -50 conic -3/2;mirror m after 70 radius -90 clear 30;stop e after 40;")
        last = None
        for p in (24, 32, 64, 128, 256):
            answer = told(system, "3 4 1/50 -1/70", p)
            self.assertEqual((answer.passed, answer.ending), (4, 0))
            width = max(pair[1] - pair[0] for ray in answer.rays for pair in ray)
            self.assertLess(width, Fraction(2 ** 20, 2 ** p))
            self.assertTrue(last is None or width < last)
            last = width


def made_up_planes(seed, turns, wild):
    made = random.Random(seed)
    for turn in range(turns):
        yield made_system(made, wild), made_start(made, wild), made_plane(made, wild), made.randrange(3)


def true_place(system, start, z, line):
    """x and y in the plane, None if the ray is lost; "unsure" if that can't be said."""
    try:
        return true_at(system, start, z, line)
    except Unsure:
        return "unsure"


class AtThePlane(unittest.TestCase):
    def test_to_the_last_bit(self):
        told_whole = 0
        for wild in (False, True):
            for system, start, z, line in made_up_planes(6, 250, wild):
                for p in FINENESSES:
                    pairs = told_at(system, start, z, p, line)
                    self.assertEqual(pairs, reckon_at(system, start, z, p, line), (system, start, z, p))
                    told_whole += pairs is not None
                    if told(system, start, p, line).ending != 0:
                        self.assertIsNone(pairs)
        self.assertGreater(told_whole, 400)

    def test_the_ray_lies_in_what_is_told(self):
        held = 0
        for wild in (False, True):
            for system, start, z, line in made_up_planes(7, 250, wild):
                place = true_place(system, start, z, line)
                if place == "unsure":
                    continue
                for p in FINENESSES:
                    pairs = told_at(system, start, z, p, line)
                    self.assertFalse(place is None and pairs is not None, (system, start, z, p))
                    for pair, number in zip(pairs or [], place or []):
                        self.assertLessEqual(pair[0], Fraction(number) + TRUE_WITHIN, (system, start, z, p))
                        self.assertGreaterEqual(pair[1], Fraction(number) - TRUE_WITHIN, (system, start, z, p))
                        held += 1
        self.assertGreater(held, 800)

    def test_finenesses_agree(self):
        for system, start, z, line in made_up_planes(8, 200, False):
            answers = [told_at(system, start, z, p, line) for p in FINENESSES]
            answers = [answer for answer in answers if answer is not None]
            for one in answers:
                for other in answers:
                    self.assertTrue(all(i[0] <= j[1] and j[0] <= i[1] for i, j in zip(one, other)), (system, start, z))

    def test_told_whole_and_narrow(self):
        whole = 0
        for system, start, z, line in made_up_planes(9, 300, False):
            place = true_place(system, start, z, line)
            if place is None or place == "unsure":
                continue
            pairs = told_at(system, start, z, 256, line)
            self.assertIsNotNone(pairs, (system, start, z))
            self.assertLess(max(pair[1] - pair[0] for pair in pairs), Fraction(1, 2 ** 170), (system, start, z))
            whole += 1
        self.assertGreater(whole, 60)


class Arithmetic(unittest.TestCase):
    """The intervals alone, against fractions, at the edges that rays seldom come to."""

    def spans(self):
        ends = (-9, -4, -1, 0, 1, 2, 9, 16)
        return [(a, b, size) for a in ends for b in ends if a <= b for size in (1, 3, 4)]

    def same(self, mine, theirs):
        self.assertEqual((Fraction(mine.low, mine.size), Fraction(mine.high, mine.size)), (theirs.lo, theirs.hi))
        self.assertGreater(mine.size, 0)

    def test_two_intervals(self):
        for a, b, size in self.spans():
            for c, d, other in self.spans():
                mine = (Interval(a, b, size), Interval(c, d, other))
                theirs = (Span(Fraction(a, size), Fraction(b, size)), Span(Fraction(c, other), Fraction(d, other)))
                self.same(times(mine[0], mine[1]), theirs[0] * theirs[1])
                if 0 not in theirs[1]:
                    self.same(over(mine[0], mine[1]), theirs[0] / theirs[1])

    def test_one_interval(self):
        for a, b, size in self.spans():
            mine = Interval(a, b, size)
            theirs = Span(Fraction(a, size), Fraction(b, size))
            self.same(square(mine), theirs.squared())
            for p in (0, 1, 2, 9):
                self.same(outward(mine, p), Reckoning(p).o(theirs))
                if a >= 0:
                    self.same(root(mine, p), Reckoning(p).root(theirs))

    def test_root_of_great_numbers(self):
        for value in (10 ** 40, 10 ** 40 + 1, 10 ** 40 - 1, 2 ** 501, 2 ** 500, 2 ** 500 - 1):
            for p in (0, 3, 100):
                self.same(root(Interval(value, value, 1), p), Reckoning(p).root(Span(value, value)))
