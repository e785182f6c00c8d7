"""Promises 17, 18 and 19: frames, the numbers of a spot in one, and colours."""

import itertools
import random
import unittest
from fractions import Fraction

import reckon
from cuttings import OTHER_FRAMES, TRIED_PRIMES, stretched
from likeshards.colours import colour_by, colour_of, in_frame
from likeshards.errors import NoFrame, NoPrime
from likeshards.fracs import is_frac
from samples import ODD_THINGS, PENTAGON, SKEW, TRIANGLE, corners, frac, some_spots, spot, value_of, values_of

PLAIN = corners((0, 0), (1, 0), (0, 1))
FRAMES = OTHER_FRAMES + [PENTAGON[:3], PENTAGON[2:][::-1], SKEW[1:], stretched(TRIANGLE), PLAIN[::-1]]
PLACES = [spot(Fraction(x, 6), Fraction(y, 4)) for x in range(-7, 8, 2) for y in range(-5, 6)]
NO_PRIMES = (0, 1, 4, 9, 100, 101, -2, True, None, "2", [2], (2,), (2, 1))
ON_A_LINE = (
    corners((0, 0), (1, 1), (2, 2)), corners((0, 0), (2, 2), (1, 1)), corners((3, 1), (3, 2), (3, -5)),
    corners((1, "1/3"), (2, "2/3"), (-4, "-4/3")),
)
ALIKE = (
    corners((0, 0), (0, 0), (1, 0)), corners((0, 0), (1, 0), (0, 0)), corners((1, 0), (0, 0), (0, 0)),
    corners((5, 5), (5, 5), (5, 5)),
)


class TestInFrame(unittest.TestCase):
    def test_plain(self):
        for place in PLACES:
            self.assertEqual(place, in_frame(PLAIN, place))

    def test_written_out(self):
        frame = corners((1, 1), (3, 1), (1, 4))
        self.assertEqual(((0, 1), (0, 1)), in_frame(frame, spot(1, 1)))
        self.assertEqual(((1, 1), (0, 1)), in_frame(frame, spot(3, 1)))
        self.assertEqual(((0, 1), (1, 1)), in_frame(frame, spot(1, 4)))
        self.assertEqual(((1, 2), (1, 3)), in_frame(frame, spot(2, 2)))
        self.assertEqual(((-1, 2), (-1, 3)), in_frame(frame, spot(0, 0)))

    def test_turned_to_the_right(self):
        frame = corners((0, 0), (0, 2), (3, 0))
        self.assertEqual(((1, 2), (1, 3)), in_frame(frame, spot(1, 1)))

    def test_its_own_spots(self):
        for frame in FRAMES:
            self.assertEqual([(0, 1), (0, 1)], list(in_frame(frame, frame[0])))
            self.assertEqual([(1, 1), (0, 1)], list(in_frame(frame, frame[1])))
            self.assertEqual([(0, 1), (1, 1)], list(in_frame(frame, frame[2])))

    def test_leads_back(self):
        for frame in FRAMES:
            (ox, oy), (px, py), (qx, qy) = reckon.points_of(frame)
            for place in PLACES + some_spots(17, 5, 10 ** 30 - 1):
                told = in_frame(frame, place)
                self.assertIsInstance(told, tuple)
                self.assertTrue(all(is_frac(part) for part in told))
                u, v = value_of(told[0]), value_of(told[1])
                self.assertEqual(
                    values_of(place), (ox + u * (px - ox) + v * (qx - ox), oy + u * (py - oy) + v * (qy - oy))
                )

    def test_no_frame(self):
        for frame in ON_A_LINE + ALIKE:
            for place in (spot(0, 0), spot(1, 1), spot("1/2", -3)):
                self.assertRaises(NoFrame, in_frame, frame, place)

    def test_hardly_a_frame(self):
        thin = Fraction(1, 10 ** 29)
        self.assertEqual(((-1, 1), (1, 1)), in_frame(corners((0, 0), (1, 0), (1, thin)), spot(0, thin)))

    def test_other_things(self):
        for thing in ODD_THINGS + (list(PLAIN), PLAIN[:2], PENTAGON):
            self.assertRaises(NoFrame, in_frame, thing, spot(0, 0))
            self.assertRaises(NoFrame, colour_by, thing, 2, spot(0, 0))


class TestColourOf(unittest.TestCase):
    def test_powers(self):
        powers = (-2, -1, 0, 1, 2)
        for prime in TRIED_PRIMES:
            for a, b in itertools.product(powers, repeat=2):
                right = 0 if a > 0 and b > 0 else 1 if a <= b else 2
                for rest in (1, -1, 101, Fraction(-103, 107)):
                    u, v = frac(Fraction(prime) ** a * rest), frac(Fraction(prime) ** b)
                    self.assertEqual(right, colour_of(u, v, prime))
                    u, v = frac(Fraction(prime) ** a), frac(Fraction(prime) ** b * rest)
                    self.assertEqual(right, colour_of(u, v, prime))

    def test_nought(self):
        for prime in TRIED_PRIMES:
            self.assertEqual(0, colour_of((0, 1), (0, 1), prime))
            for a, right_u, right_v in ((-2, 2, 1), (-1, 2, 1), (0, 2, 1), (1, 0, 0), (3, 0, 0)):
                part = frac(Fraction(prime) ** a)
                self.assertEqual(right_u, colour_of((0, 1), part, prime))
                self.assertEqual(right_v, colour_of(part, (0, 1), prime))

    def test_written_out(self):
        for right, u, v, prime in (
            (0, "2", "4", 2), (1, "1", "2", 2), (2, "2", "1", 2), (1, "1", "1", 2), (1, "3", "3", 2), (0, "3", "3", 3),
            (1, "1/2", "1/2", 2), (2, "1/2", "1/4", 2), (1, "1/4", "1/2", 2), (2, "6", "1/3", 2), (1, "97", "1", 2),
            (2, "97", "1", 97), (0, "6", "6", 3),
        ):
            told = colour_of(frac(u), frac(v), prime)
            self.assertIs(int, type(told))
            self.assertEqual(right, told)

    def test_some(self):
        for prime in TRIED_PRIMES:
            for u, v in some_spots(18, 200, 20) + some_spots(19, 30, 10 ** 30 - 1):
                powers = [reckon.power(value_of(part), prime) for part in (u, v)]
                right = 0 if min(powers) > 0 else 1 if powers[0] <= powers[1] else 2
                self.assertEqual(right, colour_of(u, v, prime))

    def test_no_prime(self):
        for thing in NO_PRIMES:
            for u, v in (((0, 1), (0, 1)), ((1, 2), (0, 1)), ((2, 1), (2, 1))):
                self.assertRaises(NoPrime, colour_of, u, v, thing)


class TestColourBy(unittest.TestCase):
    def test_plain(self):
        for prime in TRIED_PRIMES:
            for u, v in PLACES:
                self.assertEqual(colour_of(u, v, prime), colour_by(PLAIN, prime, (u, v)))

    def test_of_the_frame(self):
        for frame in FRAMES:
            for prime in TRIED_PRIMES:
                self.assertEqual([0, 1, 2], [colour_by(frame, prime, place) for place in frame])

    def test_by_the_other_reckoning(self):
        seen = set()
        for frame in FRAMES:
            for prime in TRIED_PRIMES:
                for place in PLACES[::3] + some_spots(20, 3, 10 ** 30 - 1) + list(frame):
                    right = reckon.colour(frame, prime, place)
                    seen.add((prime, right))
                    self.assertEqual(right, colour_by(frame, prime, place))
        self.assertEqual(3 * len(TRIED_PRIMES), len(seen))

    def test_refused(self):
        for frame in ON_A_LINE + ALIKE:
            self.assertRaises(NoFrame, colour_by, frame, 2, spot(0, 0))
            for thing in NO_PRIMES:
                self.assertRaises(NoFrame, colour_by, frame, thing, spot(0, 0))
        for thing in NO_PRIMES + ODD_THINGS:
            self.assertRaises(NoPrime, colour_by, PLAIN, thing, spot(0, 0))


class TestLinesAndAreas(unittest.TestCase):
    def test_no_line_has_all_three(self):
        chance = random.Random(19)
        for frame in FRAMES:
            for prime in (2, 3, 5):
                for k in range(6):
                    (ax, ay), (bx, by) = [values_of(place) for place in chance.sample(PLACES, 2)]
                    seen = set()
                    for top, bottom in itertools.product(range(-6, 9), (1, 2, 3, 4, 9, 25)):
                        t = Fraction(top, bottom)
                        seen.add(colour_by(frame, prime, spot(ax + t * (bx - ax), ay + t * (by - ay))))
                    self.assertLess(len(seen), 3)

    def test_area_of_three_colours(self):
        chance = random.Random(20)
        full = 0
        for frame in FRAMES:
            whole = reckon.turn(*reckon.points_of(frame))
            for prime in (2, 3, 5):
                for k in range(400):
                    three = chance.sample(PLACES, 3)
                    if {colour_by(frame, prime, place) for place in three} == {0, 1, 2}:
                        full += 1
                        area = reckon.turn(*reckon.points_of(three))
                        self.assertLessEqual(reckon.power(area / whole, prime), 0)
        self.assertGreater(full, 100)

    def test_lines_through_near_spots(self):
        grid = [spot(x, y) for x in range(5) for y in range(5)]
        for prime in (2, 3):
            for three in itertools.combinations(grid, 3):
                if reckon.turn(*reckon.points_of(three)) == 0:
                    self.assertNotEqual({0, 1, 2}, {colour_by(PLAIN, prime, place) for place in three})


if __name__ == "__main__":
    unittest.main()
