"""Promises 40 and 41: bends, what is bent by them, two bends in one, and bends back."""

import copy
import itertools
import random
import unittest
from fractions import Fraction

import reckon
from cuttings import CROSS, CUTTINGS, HALVES, OTHER_FRAMES, TRIED_PRIMES, WRITTEN
from likeshards.bends import bend_back, bent, bent_field, bent_pieces, both_bends, look_bend, size_of
from likeshards.colours import colour_by
from likeshards.errors import NoBend, NoField
from likeshards.fields import is_field
from likeshards.pieces import fault_of, is_piece
from samples import FIELDS, ODD_THINGS, PENTAGON, SQUARE, TRIANGLE, corners, frac, some_spots, spot, value_of, values_of


def bend_of(*parts):
    return tuple(frac(part) for part in parts)


SAME = bend_of(1, 0, 0, 1, 0, 0)
MIRROR = bend_of(0, 1, 1, 0, 0, 0)
QUARTER_TURN = bend_of(0, -1, 1, 0, 0, 0)
SKEWED = bend_of("1/2", 3, "-2/7", "5/3", "-1/9", 4)
SHRUNK = bend_of("1/3", 0, 0, "1/5", 7, -7)
FLIPPED = bend_of(-1, "1/2", 0, 3, "2/3", "-5/8")
FAR = 10 ** 30 - 1
GREAT_BEND = bend_of(FAR, Fraction(1, FAR), -7, Fraction(FAR, FAR - 1), FAR, -FAR)
BENDS = [SAME, MIRROR, QUARTER_TURN, SKEWED, SHRUNK, FLIPPED, GREAT_BEND]
NO_BENDS = ODD_THINGS + (
    bend_of(0, 0, 0, 0, 0, 0), bend_of(1, 2, 2, 4, 0, 0), bend_of(1, 1, 1, 1, 5, 6), bend_of(0, 0, 3, 4, 1, 1),
    bend_of("1/2", "1/3", 3, 2, 0, 0), SAME[:5], SAME + ((0, 1),), list(SAME), (1, 0, 0, 1, 0, 0),
    SAME[:5] + (0,), SAME[:5] + (None,), ((2, 2),) + SAME[1:], ((True, 1),) + SAME[1:], SAME[:5] + ((0, 2),),
    SAME[:5] + ([0, 1],), (SAME,), SAME[:3] + ((1, -1),) + SAME[4:], SAME[:3] + ("1",) + SAME[4:], (SAME, SAME),
)


def led(bend, point):
    a, b, c, d, e, f = [value_of(part) for part in bend]
    return (a * point[0] + b * point[1] + e, c * point[0] + d * point[1] + f)


def size(bend):
    a, b, c, d = [value_of(part) for part in bend[:4]]
    return a * d - b * c


class TestBend(unittest.TestCase):
    def test_look(self):
        for bend in BENDS:
            self.assertIsNone(look_bend(bend))

    def test_size(self):
        for bend, right in ((SAME, 1), (MIRROR, -1), (QUARTER_TURN, 1), (SHRUNK, Fraction(1, 15)), (FLIPPED, -3)):
            self.assertEqual(frac(right), size_of(bend))
        for bend in BENDS:
            self.assertEqual(size(bend), value_of(size_of(bend)))

    def test_both_signs(self):
        self.assertEqual({True, False}, {size(bend) < 0 for bend in BENDS})

    def test_spot(self):
        self.assertEqual(spot(2, 1), bent(MIRROR, spot(1, 2)))
        self.assertEqual(spot(-2, 1), bent(QUARTER_TURN, spot(1, 2)))
        self.assertEqual(spot("22/3", "-34/5"), bent(SHRUNK, spot(1, 1)))
        for bend in BENDS:
            for place in some_spots(40, 30, 40):
                self.assertEqual(spot(*led(bend, values_of(place))), bent(bend, place))

    def test_refused(self):
        for thing in NO_BENDS:
            with self.subTest(thing):
                for ask in (
                    look_bend, size_of, bend_back, lambda bend: bent(bend, SQUARE[0]),
                    lambda bend: bent_field(bend, SQUARE), lambda bend: bent_pieces(bend, HALVES),
                    lambda bend: bent_pieces(bend, []), lambda bend: both_bends(bend, SAME),
                    lambda bend: both_bends(SAME, bend), lambda bend: both_bends(bend, bend),
                ):
                    self.assertRaises(NoBend, ask, thing)


class TestBentField(unittest.TestCase):
    def test_written_out(self):
        self.assertEqual(SQUARE, bent_field(SAME, SQUARE))
        self.assertEqual(SQUARE, bent_field(MIRROR, SQUARE))
        self.assertEqual(corners((0, 0), (0, 1), (-1, 1), (-1, 0)), bent_field(QUARTER_TURN, SQUARE))
        turned = bend_of(-1, 0, 0, 1, 0, 0)
        self.assertEqual(corners((0, 0), (-1, 2), (-3, 2), (-4, 0), (-2, -1)), bent_field(turned, PENTAGON))
        self.assertEqual(corners((0, 0), (0, 2), (-3, 0)), bent_field(turned, TRIANGLE))

    def test_of_all(self):
        for bend in BENDS:
            for field in FIELDS:
                told = bent_field(bend, field)
                points = [led(bend, point) for point in reckon.points_of(field)]
                if size(bend) < 0:
                    points = [points[0], *reversed(points[1:])]
                self.assertEqual(corners(*points), told)
                self.assertTrue(is_field(told))
                self.assertEqual(reckon.area(field) * abs(size(bend)), reckon.area(told))

    def test_no_field(self):
        for thing in ODD_THINGS + (SQUARE[::-1], list(SQUARE), SQUARE[:2], HALVES):
            self.assertRaises(NoField, bent_field, SAME, thing)
            self.assertRaises(NoField, bent_field, MIRROR, thing)

    def test_no_bend_first(self):
        for thing in NO_BENDS:
            for field in (None, SQUARE[::-1], SQUARE):
                self.assertRaises(NoBend, bent_field, thing, field)


class TestBentPieces(unittest.TestCase):
    def test_written_out(self):
        a, b, c, d = SQUARE
        self.assertEqual([], bent_pieces(SAME, []))
        self.assertEqual([], bent_pieces(MIRROR, []))
        self.assertEqual(HALVES, bent_pieces(SAME, HALVES))
        self.assertEqual([(a, c, d), (a, b, c)], bent_pieces(MIRROR, HALVES))
        one = corners((1, 0), (5, 2), (0, 7))
        self.assertEqual([corners((0, 1), (7, 0), (2, 5))], bent_pieces(MIRROR, [one]))

    def test_of_all(self):
        for bend in BENDS:
            for field, pieces in WRITTEN:
                kept = list(pieces)
                told = bent_pieces(bend, pieces)
                self.assertEqual(kept, pieces)
                self.assertIsInstance(told, list)
                for piece, other in zip(pieces, told, strict=True):
                    points = [led(bend, point) for point in reckon.points_of(piece)]
                    right = corners(*points) if size(bend) > 0 else corners(points[0], points[2], points[1])
                    self.assertEqual(right, other)
                    self.assertTrue(is_piece(other))

    def test_a_cutting_stays_one(self):
        for field, pieces in CUTTINGS:
            for bend in BENDS[1:6]:
                self.assertIsNone(fault_of(bent_field(bend, field), bent_pieces(bend, pieces)))

    def test_the_same_faults(self):
        seen = set()
        for field, pieces in WRITTEN:
            spoiled = [pieces[:-1], pieces + pieces[:1], pieces[::-1] + pieces[1:2], pieces[1:]]
            spoiled += [pieces + [corners((0, 0), (99, 0), (0, 99))], pieces * 31, []]
            for bend, some in itertools.product(BENDS, spoiled):
                right = fault_of(field, some)
                if right is not None and right[0] == "left":
                    right = ("left", frac(value_of(right[1]) * abs(size(bend))))
                seen.add(right and right[0])
                self.assertEqual(right, fault_of(bent_field(bend, field), bent_pieces(bend, some)))
        self.assertLessEqual({"left", "lap", "beyond", "many"}, seen)

    def test_colours_stay(self):
        places = some_spots(41, 12, 30)
        for bend in BENDS:
            for frame in OTHER_FRAMES:
                other = tuple(bent(bend, place) for place in frame)
                for place, prime in itertools.product(places, TRIED_PRIMES):
                    self.assertEqual(colour_by(frame, prime, place), colour_by(other, prime, bent(bend, place)))

    def test_told_anew(self):
        pieces = list(CROSS)
        told = bent_pieces(SAME, pieces)
        self.assertIsNot(pieces, told)
        kept = copy.deepcopy(told)
        told.clear()
        self.assertEqual(CROSS, pieces)
        pieces.pop()
        self.assertEqual(kept, bent_pieces(SAME, list(CROSS)))


class TestBothAndBack(unittest.TestCase):
    def test_written_out(self):
        moved_then_turned = both_bends(bend_of(1, 0, 0, 1, 5, 0), QUARTER_TURN)
        self.assertEqual(bend_of(0, -1, 1, 0, 0, 5), moved_then_turned)
        self.assertEqual(bend_of(0, -1, 1, 0, 5, 0), both_bends(QUARTER_TURN, bend_of(1, 0, 0, 1, 5, 0)))
        self.assertEqual(bend_of(0, 1, -1, 0, 0, 0), bend_back(QUARTER_TURN))
        self.assertEqual(bend_of(3, 0, 0, 5, -21, 35), bend_back(SHRUNK))

    def test_one_and_then_the_other(self):
        places = some_spots(42, 10, 30)
        for one, other in itertools.product(BENDS, BENDS):
            both = both_bends(one, other)
            self.assertIsNone(look_bend(both))
            self.assertEqual(size(one) * size(other), size(both))
            for place in places:
                self.assertEqual(bent(other, bent(one, place)), bent(both, place))

    def test_back(self):
        for bend in BENDS:
            back = bend_back(bend)
            self.assertIsNone(look_bend(back))
            self.assertEqual(SAME, both_bends(bend, back))
            self.assertEqual(SAME, both_bends(back, bend))
            self.assertEqual(bend, bend_back(back))
            for place in some_spots(43, 10, 30):
                self.assertEqual(place, bent(back, bent(bend, place)))
                self.assertEqual(place, bent(bend, bent(back, place)))

    def test_fields_and_pieces_back(self):
        for bend in BENDS:
            for field, pieces in WRITTEN:
                self.assertEqual(field, bent_field(bend_back(bend), bent_field(bend, field)))
                self.assertEqual(pieces, bent_pieces(bend_back(bend), bent_pieces(bend, pieces)))

    def test_some(self):
        chance = random.Random(44)
        tried = 0
        while tried < 40:
            bend = bend_of(*[Fraction(chance.randint(-9, 9), chance.randint(1, 9)) for k in range(6)])
            if size(bend) == 0:
                self.assertRaises(NoBend, look_bend, bend)
                continue
            tried += 1
            self.assertEqual(SAME, both_bends(bend, bend_back(bend)))
            self.assertEqual(size(bend), value_of(size_of(bend)))


if __name__ == "__main__":
    unittest.main()
