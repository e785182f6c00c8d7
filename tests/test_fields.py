"""Promises 8 and 9: fields, and the place of a spot in one."""

import itertools
import unittest
from fractions import Fraction

from likeshards.errors import NoField
from likeshards.fields import field_twice, is_field, look_field, place_in
from likeshards.spots import is_spot, on_way
from samples import FIELDS, HEXAGON, ODD_THINGS, PENTAGON, SKEW, SQUARE, TRIANGLE, corners, frac, spot, values_of

# Seven corners, all of which a walk round to the left would pass.
HEPTAGON = corners((1, 0), (3, 0), (4, 1), (4, 2), (3, 3), (1, 3), (0, 1))
STAR = tuple(PENTAGON[k] for k in (0, 2, 4, 1, 3))
NEAR = [spot(x, y) for x in range(3) for y in range(3)]

NO_FIELDS = {
    "two corners": SQUARE[:2],
    "one corner": SQUARE[:1],
    "none": (),
    "seven corners": HEPTAGON,
    "three to the right": TRIANGLE[::-1],
    "four to the right": SQUARE[::-1],
    "six to the right": HEXAGON[::-1],
    "three on a line": corners((0, 0), (1, 1), (2, 2)),
    "a corner amid a side": corners((0, 0), (1, 0), (2, 0), (0, 2)),
    "the first amid a side": corners((1, 0), (2, 0), (0, 2), (0, 0)),
    "the last amid a side": corners((0, 0), (2, 0), (0, 2), (0, 1)),
    "two side by side alike": corners((0, 0), (1, 0), (1, 0), (0, 1)),
    "first and last alike": corners((0, 0), (1, 0), (0, 1), (0, 0)),
    "two across alike": corners((0, 0), (1, 0), (0, 0), (0, 1)),
    "all alike": corners((0, 0), (0, 0), (0, 0)),
    "there and back": corners((0, 0), (1, 0), (0, 0)),
    "round twice": TRIANGLE + TRIANGLE,
    "star": STAR,
    "crossed": tuple(SQUARE[k] for k in (0, 1, 3, 2)),
    "hollow": corners((0, 0), (4, 0), (1, 1), (0, 4)),
    "list": list(TRIANGLE),
    "list of lists": [[list(part) for part in place] for place in TRIANGLE],
    "a corner is a list": TRIANGLE[:2] + (list(TRIANGLE[2]),),
    "a corner is None": TRIANGLE + (None,),
    "a corner has whole numbers": ((0, 0), (3, 0), (0, 2)),
    "a corner of one part": TRIANGLE[:2] + (((0, 1),),),
    "a corner of three parts": TRIANGLE[:2] + (((0, 1), (2, 1), (0, 1)),),
    "not in lowest terms": TRIANGLE[:2] + (((0, 1), (4, 2)),),
    "nought over two": TRIANGLE[:2] + (((0, 2), (2, 1)),),
    "a bottom below nought": TRIANGLE[:2] + (((0, 1), (-2, -1)),),
    "a truth": TRIANGLE[:2] + (((0, 1), (True, 1)),),
    "a truth below": TRIANGLE[:2] + (((0, 1), (2, True)),),
    "a text": TRIANGLE[:2] + ("0,2",),
    "a field in a tuple": (TRIANGLE,),
    "three fields": (TRIANGLE, TRIANGLE, TRIANGLE),
    "a spot": spot(1, 2),
}


def right_twice(field):
    """By the sum over the sides as seen from the origin, which field_twice doesn't use."""
    points = [values_of(corner) for corner in field]
    return sum(a[0] * b[1] - b[0] * a[1] for a, b in zip(points, points[1:] + points[:1]))


def turned(field):
    """The field begun at each of its corners."""
    return [field[k:] + field[:k] for k in range(len(field))]


def is_right_field(points):
    """By cross products of ints, each pair of neighbours with each other corner."""
    n = len(points)
    for k in range(n):
        (ax, ay), (bx, by) = points[k], points[(k + 1) % n]
        for j in range(n):
            if j not in (k, (k + 1) % n):
                cx, cy = points[j]
                if (bx - ax) * (cy - ay) - (cx - ax) * (by - ay) <= 0:
                    return False
    return True


class TestIsField(unittest.TestCase):
    def test_three_to_six_corners(self):
        self.assertEqual({3, 4, 5, 6}, {len(field) for field in FIELDS})
        for field in FIELDS:
            for begun in turned(field):
                self.assertIs(True, is_field(begun))
                self.assertIsNone(look_field(begun))

    def test_no_fields(self):
        for why, thing in NO_FIELDS.items():
            with self.subTest(why):
                self.assertIs(False, is_field(thing))
                self.assertRaises(NoField, look_field, thing)

    def test_seven_would_go_round(self):
        for k in range(7):
            self.assertIs(True, is_field(HEPTAGON[:k] + HEPTAGON[k + 1:]))

    def test_of_anything(self):
        for thing in ODD_THINGS:
            self.assertIs(False, is_field(thing))
            self.assertRaises(NoField, look_field, thing)

    def test_all_orders_of_corners(self):
        for field in FIELDS:
            begun = turned(field)
            for order in itertools.permutations(field):
                self.assertIs(order in begun, is_field(order))

    def test_all_near(self):
        for many in (3, 4):
            for row in itertools.product(range(9), repeat=many):
                points = [(k // 3, k % 3) for k in row]
                self.assertIs(is_right_field(points), is_field(tuple(NEAR[k] for k in row)))

    def test_thin(self):
        thin = Fraction(1, 10 ** 29)
        self.assertIs(True, is_field(corners((0, 0), (1, -thin), (2, 0), (1, thin))))
        self.assertIs(False, is_field(corners((0, 0), (1, thin), (2, 0), (1, 2))))
        self.assertIs(False, is_field(corners((0, 0), (1, 0), (2, 0), (1, thin))))


class TestTwice(unittest.TestCase):
    def test_written_out(self):
        self.assertEqual((6, 1), field_twice(TRIANGLE))
        self.assertEqual((2, 1), field_twice(SQUARE))
        self.assertEqual((16, 1), field_twice(PENTAGON))
        self.assertEqual((8, 1), field_twice(HEXAGON))
        self.assertEqual((1, 6), field_twice(corners((0, 0), ("1/2", 0), (0, "1/3"))))

    def test_wherever_it_begins(self):
        for field in FIELDS:
            for begun in turned(field):
                self.assertEqual(frac(right_twice(field)), field_twice(begun))

    def test_thirty_figures(self):
        far = 10 ** 30 - 1
        field = corners((-far, Fraction(1, far)), (far, Fraction(-far, far - 1)), (Fraction(2, far - 2), far))
        self.assertEqual(frac(right_twice(field)), field_twice(field))

    def test_no_field(self):
        for why, thing in NO_FIELDS.items():
            with self.subTest(why):
                self.assertRaises(NoField, field_twice, thing)
        for thing in ODD_THINGS:
            self.assertRaises(NoField, field_twice, thing)


class TestPlace(unittest.TestCase):
    def test_corners(self):
        for field in FIELDS:
            for k, corner in enumerate(field):
                self.assertEqual(("corner", k), place_in(field, corner))

    def test_sides(self):
        for field in FIELDS:
            for k, start in enumerate(field):
                end = field[(k + 1) % len(field)]
                for part in ("1/2", "1/7", Fraction(10 ** 20 - 1, 10 ** 20)):
                    self.assertEqual(("side", k), place_in(field, on_way(start, end, frac(part))))

    def test_beyond_a_side(self):
        for field in FIELDS:
            for k, start in enumerate(field):
                end = field[(k + 1) % len(field)]
                for part in ("-1/1000", -1, "1001/1000", 2):
                    self.assertEqual(("out",), place_in(field, on_way(start, end, frac(part))))

    def test_inside(self):
        for field in FIELDS:
            for one, other in itertools.combinations(field, 2):
                middle = on_way(one, other, (1, 2))
                for third in field:
                    if third not in (one, other):
                        self.assertEqual(("inside",), place_in(field, on_way(middle, third, (1, 5))))

    def test_out(self):
        for field in FIELDS:
            for place in (spot(100, 0), spot(0, 100), spot(-100, 0), spot(0, -100), spot(100, 100)):
                self.assertEqual(("out",), place_in(field, place))

    def test_just_beside_a_side(self):
        thin = Fraction(1, 10 ** 29)
        self.assertEqual(("inside",), place_in(SQUARE, spot("1/2", thin)))
        self.assertEqual(("side", 0), place_in(SQUARE, spot("1/2", 0)))
        self.assertEqual(("out",), place_in(SQUARE, spot("1/2", -thin)))

    def test_square_point_by_point(self):
        names = {(0, 0): ("corner", 0), (2, 0): ("corner", 1), (2, 2): ("corner", 2), (0, 2): ("corner", 3),
                 (1, 0): ("side", 0), (2, 1): ("side", 1), (1, 2): ("side", 2), (0, 1): ("side", 3),
                 (1, 1): ("inside",)}
        for x in range(-2, 5):
            for y in range(-2, 5):
                place = spot(Fraction(x, 2), Fraction(y, 2))
                self.assertEqual(names.get((x, y), ("out",)), place_in(SQUARE, place))

    def test_no_field(self):
        self.assertIs(True, is_spot(spot(0, 0)))
        for why, thing in NO_FIELDS.items():
            with self.subTest(why):
                self.assertRaises(NoField, place_in, thing, spot(0, 0))
        for thing in ODD_THINGS:
            self.assertRaises(NoField, place_in, thing, spot(0, 0))

    def test_begun_elsewhere(self):
        for k, begun in enumerate(turned(SKEW)):
            self.assertEqual(("corner", (1 - k) % len(SKEW)), place_in(begun, SKEW[1]))


if __name__ == "__main__":
    unittest.main()
