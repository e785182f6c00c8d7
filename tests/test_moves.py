"""Promises 35 and 36: the freedom of corners, corners moved, and signed sums."""

import copy
import random
import unittest
from fractions import Fraction

import reckon
from cuttings import COMB, COMB_FIELD, CROSS, CUTTINGS, GREAT, GROWN, HALVES, QUARTERS, THIRD_AMID, UNLIKE, UNLIKE_FIELD
from cuttings import WHIRL, WHIRL_FIELD, WRITTEN
from likeshards.errors import NoCutting, NoField, NoMove, NoSpot
from likeshards.meets import corners_of
from likeshards.moves import freedom_of, moved, signed_sum, with_moved
from likeshards.pieces import fault_of
from samples import HEXAGON, ODD_THINGS, SQUARE, TRIANGLE, corners, frac, some_spots, spot, value_of, values_of

MIDDLE = spot("1/2", "1/2")
# The cross with one of its pieces cut at a spot on its way from the middle: two corners are bound to one line.
CUT_CROSS = [
    (SQUARE[0], spot("3/4", "1/4"), MIDDLE), (SQUARE[0], SQUARE[1], spot("3/4", "1/4")),
    (SQUARE[1], SQUARE[2], MIDDLE), (SQUARE[2], SQUARE[3], MIDDLE), (SQUARE[3], SQUARE[0], MIDDLE),
]
# So with two of its pieces, and two sides on one line.
CROSSED = CUT_CROSS[:3] + [
    (SQUARE[2], SQUARE[3], spot("1/4", "3/4")), (SQUARE[2], spot("1/4", "3/4"), MIDDLE), (SQUARE[3], SQUARE[0], MIDDLE),
]
# So with two of its pieces, and two sides on two lines: the middle is bound to both.
TWO_LINES = CUT_CROSS[:3] + [
    (SQUARE[2], SQUARE[3], spot("3/4", "3/4")), (spot("3/4", "3/4"), SQUARE[3], MIDDLE), (SQUARE[3], SQUARE[0], MIDDLE),
]


def right_freedom(field, pieces, place):
    """The word, and the lines of the sides that bind the corner, by Fractions."""
    point = values_of(place)
    all_points = {values_of(corner) for piece in pieces for corner in piece}

    def lies_amid(one, a, b):
        if reckon.turn(a, b, one) != 0:
            return False
        return 0 < (one[0] - a[0]) * (b[0] - a[0]) + (one[1] - a[1]) * (b[1] - a[1]) < sum(
            (q - p) ** 2 for p, q in zip(a, b)
        )

    bound = [side for side in reckon.sides(reckon.points_of(field)) if lies_amid(point, *side)]
    for piece in pieces:
        for a, b in reckon.sides(reckon.points_of(piece)):
            if lies_amid(point, a, b) or point in (a, b) and any(lies_amid(one, a, b) for one in all_points):
                bound.append((a, b))
    if place in field:
        return "fixed", bound
    if not bound:
        return "free", bound
    ends = [end for side in bound for end in side]
    return ("along" if all(reckon.turn(*bound[0], end) == 0 for end in ends) else "fixed"), bound


class TestFreedom(unittest.TestCase):
    def test_fixed_corners_of_the_field(self):
        for field, pieces in CUTTINGS:
            for corner in field:
                self.assertEqual(("fixed",), freedom_of(field, pieces, corner))

    def test_free(self):
        self.assertEqual(("free",), freedom_of(SQUARE, CROSS, MIDDLE))

    def test_along_a_side_of_the_field(self):
        told = freedom_of(TRIANGLE, QUARTERS, spot("3/2", 0))
        self.assertEqual("along", told[0])
        self.assertEqual({TRIANGLE[0], TRIANGLE[1]}, set(told[1:]))

    def test_along_a_side_of_a_piece_amid_which_it_lies(self):
        told = freedom_of(SQUARE, THIRD_AMID, MIDDLE)
        self.assertEqual(("along", {SQUARE[0], SQUARE[2]}), (told[0], set(told[1:])))

    def test_along_a_side_of_which_it_is_an_end(self):
        told = freedom_of(SQUARE, CUT_CROSS, MIDDLE)
        self.assertEqual(("along", {MIDDLE, SQUARE[1]}), (told[0], set(told[1:])))
        told = freedom_of(SQUARE, CUT_CROSS, spot("3/4", "1/4"))
        self.assertEqual(("along", {MIDDLE, SQUARE[1]}), (told[0], set(told[1:])))

    def test_two_sides_on_one_line(self):
        # One on either side of the middle, on the same line.
        self.assertIsNone(fault_of(SQUARE, CROSSED))
        told = freedom_of(SQUARE, CROSSED, MIDDLE)
        self.assertEqual("along", told[0])
        self.assertTrue(all(reckon.turn(*map(values_of, (SQUARE[1], SQUARE[3], end))) == 0 for end in told[1:]))

    def test_fixed_by_two_lines(self):
        self.assertIsNone(fault_of(SQUARE, TWO_LINES))
        self.assertEqual(("fixed",), freedom_of(SQUARE, TWO_LINES, MIDDLE))
        for place in corners((1, 2), (4, 1), (2, 4)):
            self.assertEqual(("fixed",), freedom_of(WHIRL_FIELD, WHIRL, place))

    def test_of_all_corners(self):
        seen = {}
        for field, pieces in CUTTINGS + [(SQUARE, CUT_CROSS), (SQUARE, CROSSED), (SQUARE, TWO_LINES)]:
            for corner in corners_of(field, pieces):
                told = freedom_of(field, pieces, corner)
                word, bound = right_freedom(field, pieces, corner)
                seen[word] = seen.get(word, 0) + 1
                self.assertEqual(word, told[0])
                self.assertEqual(3 if word == "along" else 1, len(told))
                if word == "along":
                    self.assertIn(tuple(sorted(map(values_of, told[1:]))), [tuple(sorted(side)) for side in bound])
        self.assertEqual({"fixed", "along", "free"}, set(seen))
        self.assertGreater(min(seen.values()), 20)

    def test_no_corner(self):
        for place in (spot("1/2", 0), spot("1/3", "1/2"), spot(2, 2), spot("3/4", "1/4")):
            self.assertRaises(NoSpot, freedom_of, SQUARE, CROSS, place)
            self.assertRaises(NoSpot, moved, SQUARE, CROSS, place, MIDDLE)
            self.assertRaises(NoSpot, moved, SQUARE, CROSS, place, place)
        self.assertRaises(NoSpot, freedom_of, SQUARE, HALVES, MIDDLE)
        for thing in ODD_THINGS + (((True, 1), (0, 1)), list(SQUARE[0]), ((2, 4), (1, 2))):
            self.assertRaises(NoSpot, freedom_of, SQUARE, CROSS, thing)


def on_line(told, part):
    """The spot by a part of the way from p to q of a freedom along."""
    (px, py), (qx, qy) = map(values_of, told[1:])
    return spot(px + part * (qx - px), py + part * (qy - py))


class TestMoved(unittest.TestCase):
    def test_free(self):
        goal = spot("1/3", "3/5")
        told = moved(SQUARE, CROSS, MIDDLE, goal)
        a, b, c, d = SQUARE
        self.assertEqual([(a, b, goal), (b, c, goal), (c, d, goal), (d, a, goal)], told)
        self.assertIsNone(fault_of(SQUARE, told))

    def test_each_corner_in_its_turn(self):
        goal = spot("1/2", 0)
        self.assertEqual(
            [corners((0, 0), ("1/2", 0), (0, 1)), corners(("1/2", 0), (3, 0), ("3/2", 1)), QUARTERS[2],
             corners(("1/2", 0), ("3/2", 1), (0, 1))],
            moved(TRIANGLE, QUARTERS, spot("3/2", 0), goal),
        )

    def test_along(self):
        for part, lets in ((Fraction(1, 7), True), (Fraction(6, 7), True), (Fraction(0), False), (Fraction(1), False),
                           (Fraction(2), False), (Fraction(-1), False)):
            goal = spot(part, part)
            if lets:
                self.assertIsNone(fault_of(SQUARE, moved(SQUARE, THIRD_AMID, MIDDLE, goal)))
            else:
                self.assertRaises(NoCutting, moved, SQUARE, THIRD_AMID, MIDDLE, goal)

    def test_not_on_the_line(self):
        for goal in (spot("1/3", "1/2"), spot("1/2", "501/1000"), spot(5, 6)):
            self.assertRaises(NoMove, moved, SQUARE, THIRD_AMID, MIDDLE, goal)
            self.assertRaises(NoMove, moved, SQUARE, CUT_CROSS, MIDDLE, goal)
        self.assertRaises(NoMove, moved, TRIANGLE, QUARTERS, spot("3/2", 0), spot("3/2", "1/9"))

    def test_fixed(self):
        for corner in SQUARE:
            for goal in (MIDDLE, spot(2, 2), SQUARE[0], SQUARE[1]):
                if goal != corner:
                    self.assertRaises(NoMove, moved, SQUARE, CROSS, corner, goal)
        self.assertRaises(NoMove, moved, WHIRL_FIELD, WHIRL, spot(1, 2), spot(1, 3))
        # Not along either of the lines, too.
        self.assertRaises(NoMove, moved, SQUARE, TWO_LINES, MIDDLE, spot("5/8", "3/8"))
        self.assertRaises(NoMove, moved, SQUARE, TWO_LINES, MIDDLE, spot("5/8", "5/8"))

    def test_let_and_no_cutting(self):
        for field, pieces, place, goal, fault in (
            (SQUARE, CROSS, MIDDLE, spot("1/2", "-1/2"), ("piece", 0)),
            (SQUARE, CROSS, MIDDLE, spot("1/2", 0), ("piece", 0)),
            (SQUARE, CROSS, MIDDLE, spot(1, "1/2"), ("piece", 1)),
            (SQUARE, CROSS, MIDDLE, SQUARE[2], ("piece", 1)),
            (TRIANGLE, QUARTERS, spot("3/2", 0), spot(-1, 0), ("piece", 0)),
            (TRIANGLE, QUARTERS, spot("3/2", 0), spot(4, 0), ("piece", 1)),
            (COMB_FIELD, COMB, spot(2, 2), spot(0, 4), ("piece", 3)),
        ):
            self.assertIn(freedom_of(field, pieces, place)[0], ("along", "free"))
            with self.assertRaises(NoCutting) as caught:
                moved(field, pieces, place, goal)
            self.assertEqual(fault, caught.exception.fault)
            self.assertEqual(fault_of(field, with_moved(pieces, place, goal)), caught.exception.fault)

    def test_corner_past_another_one(self):
        # What comes is turned, since the signed sum stays.
        with self.assertRaises(NoCutting) as caught:
            moved(UNLIKE_FIELD, UNLIKE, spot(2, 0), spot(5, 0))
        self.assertEqual(("piece", 1), caught.exception.fault)
        # On the other side of the line the corners lie unlike: there it goes past them.
        told = moved(UNLIKE_FIELD, UNLIKE, spot(3, 0), spot(5, 0))
        self.assertIsNone(fault_of(UNLIKE_FIELD, told))
        self.assertRaises(NoCutting, moved, UNLIKE_FIELD, UNLIKE, spot(3, 0), spot(6, 0))

    def test_to_itself(self):
        for field, pieces in CUTTINGS[:14]:
            for corner in corners_of(field, pieces):
                told = moved(field, pieces, corner, corner)
                self.assertEqual(pieces, told)
                self.assertIsNot(pieces, told)

    def test_any_move_that_is_let(self):
        chance = random.Random(36)
        cut = refused = 0
        for field, pieces in WRITTEN + GROWN + GREAT[:4] + [(SQUARE, CUT_CROSS), (SQUARE, CROSSED)]:
            whole = frac(reckon.area(field))
            for corner in corners_of(field, pieces):
                told = freedom_of(field, pieces, corner)
                goals = [corner]
                if told[0] == "along":
                    goals += [on_line(told, Fraction(chance.randint(-20, 40), 19)) for k in range(3)]
                elif told[0] == "free":
                    x, y = values_of(corner)
                    goals += some_spots(chance.random(), 2, 9) + [spot(x + Fraction(1, 997), y - Fraction(1, 991))]
                for goal in goals:
                    comes = with_moved(pieces, corner, goal)
                    self.assertEqual(whole, signed_sum(comes))
                    fault = fault_of(field, comes)
                    if fault is None:
                        cut += 1
                        self.assertEqual(comes, moved(field, pieces, corner, goal))
                    else:
                        refused += 1
                        with self.assertRaises(NoCutting) as caught:
                            moved(field, pieces, corner, goal)
                        self.assertEqual(fault, caught.exception.fault)
        self.assertGreater(cut, 100)
        self.assertGreater(refused, 60)

    def test_which_goes_first(self):
        goal = spot(9, 9)
        for field, pieces, place, kind in (
            (None, None, None, NoField), (SQUARE[::-1], CROSS, MIDDLE, NoField), (list(SQUARE), [], spot(2, 2), NoField),
            (SQUARE, None, None, NoCutting), (SQUARE, CROSS[:3], MIDDLE, NoCutting), (SQUARE, [], spot(2, 2), NoCutting),
            (SQUARE, CROSS, spot(2, 2), NoSpot), (SQUARE, CROSS, SQUARE[0], NoMove),
            (SQUARE, CROSS, MIDDLE, NoCutting),
        ):
            self.assertRaises(kind, moved, field, pieces, place, goal)
            if kind in (NoField, NoSpot) or pieces is not CROSS:
                self.assertRaises(kind, freedom_of, field, pieces, place)

    def test_the_fault_of_what_is_handed_in(self):
        with self.assertRaises(NoCutting) as caught:
            freedom_of(SQUARE, CROSS[:3], MIDDLE)
        self.assertEqual(("left", frac("1/4")), caught.exception.fault)
        with self.assertRaises(NoCutting) as caught:
            moved(SQUARE, [], MIDDLE, MIDDLE)
        self.assertEqual(("many",), caught.exception.fault)

    def test_nothing_is_changed(self):
        pieces = list(CROSS)
        told = moved(SQUARE, pieces, MIDDLE, spot("1/3", "1/3"))
        kept = list(told)
        self.assertEqual(CROSS, pieces)
        told.clear()
        pieces.pop()
        self.assertEqual(kept, moved(SQUARE, list(CROSS), MIDDLE, spot("1/3", "1/3")))


class TestWithMoved(unittest.TestCase):
    def test_any_list(self):
        one, other, goal = spot(1, 2), spot(3, 4), spot("5/6", "7/8")
        self.assertEqual([], with_moved([], one, goal))
        self.assertEqual([(goal, goal, goal)], with_moved([(one, one, one)], one, goal))
        self.assertEqual([(other, goal, other), (other, other, other)],
                         with_moved([(other, one, other), (other, other, other)], one, goal))
        rows = [tuple(some_spots(seed, 3, 2)) for seed in range(80)]
        told = with_moved(rows, rows[0][0], goal)
        self.assertIsInstance(told, list)
        for row, piece in zip(rows, told, strict=True):
            self.assertIsInstance(piece, tuple)
            self.assertEqual([goal if place == rows[0][0] else place for place in row], list(piece))

    def test_the_list_stays(self):
        pieces = list(CROSS)
        told = with_moved(pieces, MIDDLE, spot(0, 0))
        self.assertEqual(CROSS, pieces)
        kept = list(told)
        told.clear()
        self.assertEqual(kept, with_moved(pieces, MIDDLE, spot(0, 0)))
        self.assertIsNot(pieces, with_moved(pieces, spot(77, 7), spot(0, 0)))


class TestSignedSum(unittest.TestCase):
    def test_none(self):
        self.assertEqual((0, 1), signed_sum([]))

    def test_written_out(self):
        self.assertEqual((1, 2), signed_sum([HALVES[0]]))
        self.assertEqual((-1, 2), signed_sum([HALVES[0][::-1]]))
        self.assertEqual((0, 1), signed_sum([HALVES[0], HALVES[1][::-1]]))
        self.assertEqual((0, 1), signed_sum([(SQUARE[0],) * 3]))
        self.assertEqual((1, 1), signed_sum(HALVES))

    def test_some(self):
        rows = [tuple(some_spots(seed, 3, 50)) for seed in range(40)]
        for many in range(1, 41):
            right = sum(reckon.turn(*reckon.points_of(row)) for row in rows[:many]) / 2
            self.assertEqual(right, value_of(signed_sum(rows[:many])))

    def test_cuttings(self):
        for field, pieces in CUTTINGS:
            self.assertEqual(frac(reckon.area(field)), signed_sum(pieces))
        self.assertEqual(frac(reckon.area(HEXAGON)), signed_sum([(HEXAGON[0], HEXAGON[k], HEXAGON[k + 1])
                                                                 for k in range(1, 5)]))

    def test_the_list_stays(self):
        pieces = copy.deepcopy(CROSS)
        signed_sum(pieces)
        self.assertEqual(CROSS, pieces)


if __name__ == "__main__":
    unittest.main()
