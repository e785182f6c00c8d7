"""Promises 6 and 7, and what 8 says of spots."""

import unittest
from fractions import Fraction

from likeshards.spots import is_ahead, is_amid, is_spot, on_way, turn_of, twice_of
from samples import ODD_THINGS, SQUARE, TRIANGLE, frac, some_spots, spot, value_of, values_of

GRID = [spot(x, y) for x in range(-1, 3) for y in range(-1, 3)]


def right_twice(p, q, r):
    (px, py), (qx, qy), (rx, ry) = values_of(p), values_of(q), values_of(r)
    return (qx - px) * (ry - py) - (rx - px) * (qy - py)


def is_right_amid(place, one, other):
    """By the parts of the way, as is_amid doesn't do it."""
    (x, y), (ox, oy), (tx, ty) = values_of(place), values_of(one), values_of(other)
    if (ox, oy) == (tx, ty):
        return False
    part = (x - ox) / (tx - ox) if tx != ox else (y - oy) / (ty - oy)
    return 0 < part < 1 and (x, y) == (ox + part * (tx - ox), oy + part * (ty - oy))


class TestIsSpot(unittest.TestCase):
    def test_spots(self):
        for place in GRID + [spot("1/2", "-3/7"), spot(10 ** 30 - 1, Fraction(1, 10 ** 30 - 1))]:
            self.assertIs(True, is_spot(place))

    def test_of_anything(self):
        for thing in ODD_THINGS:
            self.assertIs(False, is_spot(thing))
        half = (1, 2)
        for thing in (
            [half, half], (half,), (half, half, half), ((2, 4), half), (half, (2, 4)), (half, (0, 2)),
            (half, (1, 0)), ((1, -2), half), ((True, 1), half), (half, (1, True)), (half, None), (1, half),
            (half, 1), (half, [1, 2]), ([1, 2], half), (half, "12"), half, TRIANGLE, SQUARE,
            (spot(0, 0), spot(1, 0)), (half, (half, half)),
        ):
            self.assertIs(False, is_spot(thing))


class TestAhead(unittest.TestCase):
    def test_by_x(self):
        self.assertIs(True, is_ahead(spot(0, 5), spot(1, 0)))
        self.assertIs(False, is_ahead(spot(1, 0), spot(0, 5)))
        self.assertIs(True, is_ahead(spot("-1/2", 0), spot("-1/3", 0)))
        self.assertIs(True, is_ahead(spot("1/3", 9), spot("1/2", -9)))

    def test_by_y(self):
        self.assertIs(True, is_ahead(spot(1, "1/3"), spot(1, "1/2")))
        self.assertIs(False, is_ahead(spot(1, "1/2"), spot(1, "1/3")))
        self.assertIs(True, is_ahead(spot("-2/3", -2), spot("-2/3", -1)))

    def test_itself(self):
        for place in GRID + some_spots(6, 10, 10 ** 30 - 1):
            self.assertIs(False, is_ahead(place, place))

    def test_as_pairs_are_compared(self):
        places = GRID + some_spots(7, 20, 9) + some_spots(8, 5, 10 ** 30 - 1)
        for one in places:
            for other in places:
                self.assertIs(values_of(one) < values_of(other), is_ahead(one, other))


class TestTwice(unittest.TestCase):
    def test_left(self):
        self.assertEqual((6, 1), twice_of(*TRIANGLE))
        self.assertEqual(1, turn_of(*TRIANGLE))

    def test_right(self):
        self.assertEqual((-6, 1), twice_of(TRIANGLE[0], TRIANGLE[2], TRIANGLE[1]))
        self.assertEqual(-1, turn_of(TRIANGLE[0], TRIANGLE[2], TRIANGLE[1]))

    def test_parts(self):
        self.assertEqual((1, 12), twice_of(spot("1/2", "1/3"), spot(1, "1/3"), spot(0, "1/2")))

    def test_on_a_line(self):
        for third in (spot(2, 4), spot("1/2", 1), spot(-1, -2), spot("1/3", "2/3")):
            self.assertEqual((0, 1), twice_of(spot(0, 0), spot(1, 2), third))
            self.assertEqual(0, turn_of(spot(0, 0), spot(1, 2), third))

    def test_two_alike(self):
        one, other = spot("1/2", -3), spot(4, "5/7")
        for three in ((one, one, other), (one, other, one), (other, one, one), (one, one, one)):
            self.assertEqual((0, 1), twice_of(*three))
            self.assertEqual(0, turn_of(*three))

    def test_all_near(self):
        for p in GRID:
            for q in GRID:
                for r in GRID:
                    self.check(p, q, r)

    def test_thirty_figures(self):
        places = some_spots(9, 6, 10 ** 30 - 1)
        for p in places:
            for q in places:
                for r in places:
                    self.check(p, q, r)

    def check(self, p, q, r):
        right = right_twice(p, q, r)
        self.assertEqual(right, value_of(twice_of(p, q, r)))
        turn = turn_of(p, q, r)
        self.assertIs(int, type(turn))
        self.assertEqual((right > 0) - (right < 0), turn)


class TestAmid(unittest.TestCase):
    def both(self, place, one, other):
        """Asked both ways, which must tell the same."""
        told = is_amid(place, one, other)
        self.assertIs(told, is_amid(place, other, one))
        return told

    def test_each_kind_of_line(self):
        for one, other in (
            (spot(0, 0), spot(4, 0)), (spot(0, 0), spot(0, 4)), (spot(1, 1), spot("7/2", 6)),
            (spot(-1, 5), spot(3, "1/3")),
        ):
            for part in ("1/2", "1/3", "99/100", Fraction(1, 10 ** 20)):
                self.assertIs(True, self.both(on_way(one, other, frac(part)), one, other))
            for part in (0, 1, -1, 2, "-1/100", "101/100"):
                self.assertIs(False, self.both(on_way(one, other, frac(part)), one, other))

    def test_ends(self):
        one, other = spot(0, 1), spot(5, "2/3")
        self.assertIs(False, self.both(one, one, other))
        self.assertIs(False, self.both(other, one, other))

    def test_beside(self):
        for place in (spot(2, 1), spot(2, -1), spot(2, Fraction(1, 10 ** 29)), spot(0, 1), spot(4, -1)):
            self.assertIs(False, self.both(place, spot(0, 0), spot(4, 0)))

    def test_two_others_alike(self):
        for place in (spot(0, 0), spot(1, 1), spot(-1, 0)):
            self.assertIs(False, is_amid(place, spot(0, 0), spot(0, 0)))

    def test_all_near(self):
        for place in GRID:
            for one in GRID:
                for other in GRID:
                    self.assertIs(is_right_amid(place, one, other), is_amid(place, one, other))


class TestOnWay(unittest.TestCase):
    def test_ends_and_between(self):
        one, other = spot(1, 2), spot(4, -1)
        self.assertEqual(one, on_way(one, other, (0, 1)))
        self.assertEqual(other, on_way(one, other, (1, 1)))
        self.assertEqual(spot(2, 1), on_way(one, other, (1, 3)))
        self.assertEqual(spot("5/2", "1/2"), on_way(one, other, (1, 2)))

    def test_beyond_and_below(self):
        one, other = spot(1, 2), spot(4, -1)
        self.assertEqual(spot(7, -4), on_way(one, other, (2, 1)))
        self.assertEqual(spot("11/2", "-5/2"), on_way(one, other, (3, 2)))
        self.assertEqual(spot(-2, 5), on_way(one, other, (-1, 1)))

    def test_two_alike(self):
        for part in ((0, 1), (1, 1), (-5, 3)):
            self.assertEqual(spot(1, 2), on_way(spot(1, 2), spot(1, 2), part))

    def test_many(self):
        places = some_spots(11, 8, 99) + some_spots(12, 3, 10 ** 30 - 1)
        for one in places:
            for other in places:
                for part in ("0", "1", "2/7", "-9/4", "31/3", Fraction(10 ** 30 - 1, 10 ** 29)):
                    t = Fraction(part)
                    right = tuple(a + t * (b - a) for a, b in zip(values_of(one), values_of(other)))
                    told = on_way(one, other, frac(part))
                    self.assertIs(True, is_spot(told))
                    self.assertEqual(right, values_of(told))


if __name__ == "__main__":
    unittest.main()
