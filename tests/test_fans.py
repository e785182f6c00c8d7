"""Promises 27 and 28: fans, their shares, and fans cut in like pieces."""

import math
import unittest
from fractions import Fraction

import reckon
from cuttings import stretched
from likeshards.errors import NoField, NoWay
from likeshards.fans import fan_cut, fan_of, shares_of
from likeshards.pieces import fault_of, is_piece
from samples import FIELDS, HEXAGON, ODD_THINGS, PENTAGON, SQUARE, TRIANGLE, corners

MORE = [
    corners((0, 0), (1, 0), ("1/2", 1), (0, 1)), corners((0, 0), (1, 0), ("1/5", 1), (0, 1)),
    corners((0, 0), (4, 0), (5, 2), (3, 5), (0, 3)), corners((0, 0), (1, 0), (1, 8), (0, 6)),
    stretched(HEXAGON), stretched(TRIANGLE), corners((0, 0), ("1/3", 0), ("1/2", "1/7"), (0, "2/5")),
]
ALL_FIELDS = list(FIELDS) + MORE
NO_CORNERS = tuple(thing for thing in ODD_THINGS if thing not in (0, 1)) + (
    True, False, 4, 5, 6, -1, -4, 10 ** 30 - 1, "0", (0,), [0], (0, 1), SQUARE[0],
)


def area(piece):
    return reckon.twice(reckon.points_of(piece)) / 2


def corner_numbers(field):
    return range(len(field))


def even_parts(piece, many):
    """The piece cut from its first corner in many like ones, by Fractions."""
    hub, one, other = piece
    (ax, ay), (bx, by) = reckon.points_of((one, other))
    row = corners(*[(ax + Fraction(k, many) * (bx - ax), ay + Fraction(k, many) * (by - ay)) for k in range(many + 1)])
    return [(hub, row[k], row[k + 1]) for k in range(many)]


class TestFan(unittest.TestCase):
    def test_triangle(self):
        a, b, c = TRIANGLE
        self.assertEqual([(a, b, c)], fan_of(TRIANGLE, 0))
        self.assertEqual([(b, c, a)], fan_of(TRIANGLE, 1))
        self.assertEqual([(c, a, b)], fan_of(TRIANGLE, 2))

    def test_square(self):
        a, b, c, d = SQUARE
        self.assertEqual([(a, b, c), (a, c, d)], fan_of(SQUARE, 0))
        self.assertEqual([(b, c, d), (b, d, a)], fan_of(SQUARE, 1))
        self.assertEqual([(d, a, b), (d, b, c)], fan_of(SQUARE, 3))

    def test_six_corners(self):
        a, b, c, d, e, f = HEXAGON
        self.assertEqual([(e, f, a), (e, a, b), (e, b, c), (e, c, d)], fan_of(HEXAGON, 4))

    def test_from_each_corner_a_cutting(self):
        self.assertEqual({3, 4, 5, 6}, {len(field) for field in ALL_FIELDS})
        for field in ALL_FIELDS:
            n = len(field)
            for c in corner_numbers(field):
                right = [(field[c], field[(c + k) % n], field[(c + k + 1) % n]) for k in range(1, n - 1)]
                told = fan_of(field, c)
                self.assertIsInstance(told, list)
                self.assertEqual(right, told)
                self.assertTrue(all(is_piece(piece) for piece in told))
                self.assertIsNone(fault_of(field, told))


class TestShares(unittest.TestCase):
    def test_written_out(self):
        self.assertEqual([1], shares_of(TRIANGLE, 0))
        self.assertEqual([1, 1], shares_of(SQUARE, 2))
        self.assertEqual([2, 1], shares_of(MORE[0], 0))
        self.assertEqual([1, 2], shares_of(MORE[0], 2))
        self.assertEqual([5, 1], shares_of(MORE[1], 0))
        self.assertEqual([4, 3], shares_of(MORE[3], 0))
        self.assertEqual([1, 3, 2, 2], shares_of(HEXAGON, 0))
        self.assertEqual([2, 2, 3, 1], shares_of(HEXAGON, 1))

    def test_as_the_areas(self):
        for field in ALL_FIELDS:
            for c in corner_numbers(field):
                told = shares_of(field, c)
                areas = [area(piece) for piece in fan_of(field, c)]
                self.assertIsInstance(told, list)
                self.assertTrue(all(type(share) is int and share >= 1 for share in told))
                self.assertEqual(1, math.gcd(*told))
                self.assertEqual([sum(told) * one / sum(areas) for one in areas], told)

    def test_great_ones(self):
        far = 10 ** 30 - 1
        field = corners((0, 0), (far, 0), (far - 1, far), (0, 1))
        told = shares_of(field, 0)
        self.assertEqual(1, math.gcd(*told))
        areas = [area(piece) for piece in fan_of(field, 0)]
        self.assertEqual(areas[0] / areas[1], Fraction(told[0], told[1]))


class TestCut(unittest.TestCase):
    def test_triangle(self):
        a, b, c = TRIANGLE
        self.assertEqual([TRIANGLE], fan_cut(TRIANGLE, 0, 1))
        middle = corners(("3/2", 1))[0]
        self.assertEqual([(a, b, middle), (a, middle, c)], fan_cut(TRIANGLE, 0, 2))
        third, two_thirds = corners((1, 0), (2, 0))
        self.assertEqual([(c, a, third), (c, third, two_thirds), (c, two_thirds, b)], fan_cut(TRIANGLE, 2, 3))

    def test_square(self):
        a, b, c, d = SQUARE
        self.assertEqual([(a, b, c), (a, c, d)], fan_cut(SQUARE, 0, 2))
        right, upper = corners((1, "1/2"), ("1/2", 1))
        self.assertEqual([(a, b, right), (a, right, c), (a, c, upper), (a, upper, d)], fan_cut(SQUARE, 0, 4))

    def test_unlike_shares(self):
        field = MORE[0]
        told = fan_cut(field, 0, 3)
        self.assertEqual(3, len(told))
        self.assertEqual(corners((0, 0), (1, 0), ("3/4", "1/2")), told[0])
        self.assertEqual(corners((0, 0), ("3/4", "1/2"), ("1/2", 1)), told[1])
        self.assertEqual(corners((0, 0), ("1/2", 1), (0, 1)), told[2])

    def test_each_multiple(self):
        tried = 0
        for field in ALL_FIELDS:
            for c in corner_numbers(field):
                shares = shares_of(field, c)
                number = sum(shares)
                for many in range(number, 31, number):
                    tried += 1
                    told = fan_cut(field, c, many)
                    self.assertIsInstance(told, list)
                    right = []
                    for piece, share in zip(fan_of(field, c), shares):
                        right += even_parts(piece, share * many // number)
                    self.assertEqual(right, told)
                    self.assertEqual(many, len(told))
                    self.assertEqual(1, len({area(piece) for piece in told}))
        self.assertGreater(tried, 300)

    def test_cuttings(self):
        for field in ALL_FIELDS:
            for c in corner_numbers(field):
                number = sum(shares_of(field, c))
                for many in (number, 2 * number, 30 // number * number):
                    if 1 <= many <= 30:
                        self.assertIsNone(fault_of(field, fan_cut(field, c, many)))

    def test_no_multiple(self):
        for field in ALL_FIELDS:
            for c in corner_numbers(field):
                number = sum(shares_of(field, c))
                for many in range(-31, 65):
                    if many not in range(1, 31) or many % number != 0:
                        self.assertRaises(NoWay, fan_cut, field, c, many)

    def test_more_than_thirty(self):
        self.assertEqual(30, len(fan_cut(TRIANGLE, 0, 30)))
        for many in (31, 60, 10 ** 29):
            self.assertRaises(NoWay, fan_cut, TRIANGLE, 0, many)
        self.assertRaises(NoWay, fan_cut, SQUARE, 0, 32)
        wide = corners((0, 0), (1, 0), (30, 1), (0, 1))
        self.assertEqual(31, sum(shares_of(wide, 0)))
        self.assertRaises(NoWay, fan_cut, wide, 0, 31)


class TestRefused(unittest.TestCase):
    asked = (fan_of, shares_of, lambda field, c: fan_cut(field, c, 2), lambda field, c: fan_cut(field, c, 0))

    def test_no_corners(self):
        for ask in self.asked:
            for thing in NO_CORNERS:
                with self.subTest(thing):
                    self.assertRaises(NoWay, ask, SQUARE, thing)

    def test_numbers_of_this_field(self):
        for field in ALL_FIELDS:
            for ask in self.asked[:2]:
                for c in (len(field), -1, -len(field), len(field) + 1):
                    self.assertRaises(NoWay, ask, field, c)

    def test_many_that_is_no_number(self):
        for thing in (True, False, None, "1", [1], (1, 1)):
            self.assertRaises(NoWay, fan_cut, TRIANGLE, 0, thing)

    def test_no_field_first(self):
        for ask in self.asked:
            for thing in ODD_THINGS + (SQUARE[::-1], list(SQUARE), SQUARE[:2]):
                for c in (0, None, True, 99):
                    self.assertRaises(NoField, ask, thing, c)

    def test_told_anew(self):
        for ask in self.asked[:3]:
            told = ask(SQUARE, 1)
            kept = list(told)
            told.clear()
            self.assertEqual(kept, ask(SQUARE, 1))

    def test_same_from_a_field_begun_elsewhere(self):
        for c in range(5):
            begun = PENTAGON[c:] + PENTAGON[:c]
            self.assertEqual(fan_of(PENTAGON, c), fan_of(begun, 0))


if __name__ == "__main__":
    unittest.main()
