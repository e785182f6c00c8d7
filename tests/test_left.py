"""Promises 12 and 13: patches parted by a line, and what pieces leave over of a field."""

import copy
import itertools
import random
import unittest
from fractions import Fraction

import reckon
from cuttings import CUTTINGS, GREAT, GROWN, HALVES, WRITTEN, all_stretched, fan, grown, stretched
from likeshards.errors import NoCutting, NoField, NoLine
from likeshards.left import left_over, parted_by
from likeshards.pieces import is_piece
from likeshards.spots import on_way
from samples import FIELDS, HEXAGON, ODD_THINGS, PENTAGON, SKEW, SQUARE, TRIANGLE, corners, frac, spot, values_of

FAR = 10 ** 30 - 1


def patch_of(field):
    """The field begun with the corner ahead of all others."""
    points = reckon.points_of(field)
    k = points.index(min(points))
    return field[k:] + field[:k]


def cyclic(shape):
    """All ways to begin a tuple."""
    return [shape[k:] + shape[:k] for k in range(len(shape))]


def twice_of_all(shapes):
    return sum(reckon.twice(reckon.points_of(shape)) for shape in shapes)


PATCHES = [patch_of(field) for field in FIELDS]
BIG = corners((0, 0), (4, 0), (4, 4), (0, 4))


class TestParted(unittest.TestCase):
    def both(self, patch, one, other):
        """Told both ways about, which must be the same turned round."""
        told = parted_by(patch, one, other)
        self.assertIsInstance(told, tuple)
        self.assertEqual(2, len(told))
        self.assertEqual(told[::-1], parted_by(patch, other, one))
        return told

    def test_amid_sides(self):
        left, right = self.both(BIG, spot(0, 1), spot(4, 2))
        self.assertEqual(corners((0, 1), (4, 2), (4, 4), (0, 4)), left)
        self.assertEqual(corners((0, 0), (4, 0), (4, 2), (0, 1)), right)

    def test_upwards(self):
        left, right = self.both(BIG, spot(1, 0), spot(1, 1))
        self.assertEqual(corners((0, 0), (1, 0), (1, 4), (0, 4)), left)
        self.assertEqual(corners((1, 0), (4, 0), (4, 4), (1, 4)), right)

    def test_through_corners(self):
        left, right = self.both(BIG, spot(0, 0), spot(4, 4))
        self.assertEqual(corners((0, 0), (4, 4), (0, 4)), left)
        self.assertEqual(corners((0, 0), (4, 0), (4, 4)), right)

    def test_through_a_corner_and_a_side(self):
        left, right = self.both(BIG, spot(0, 0), spot(4, 3))
        self.assertEqual(corners((0, 0), (4, 3), (4, 4), (0, 4)), left)
        self.assertEqual(corners((0, 0), (4, 0), (4, 3)), right)
        left, right = self.both(BIG, spot(4, 0), spot(2, 4))
        self.assertEqual(corners((0, 0), (4, 0), (2, 4), (0, 4)), left)
        self.assertEqual(corners((2, 4), (4, 0), (4, 4)), right)

    def test_spots_inside(self):
        self.assertEqual(self.both(BIG, spot(0, 1), spot(4, 2)), self.both(BIG, spot(1, "5/4"), spot(2, "3/2")))

    def test_spots_beyond(self):
        self.assertEqual(self.both(BIG, spot(0, 1), spot(4, 2)), self.both(BIG, spot(-4, 0), spot(8, 3)))
        self.assertEqual(self.both(BIG, spot(0, 1), spot(4, 2)), self.both(BIG, spot(8, 3), spot(12, 4)))

    def test_a_corner_cut_off(self):
        left, right = self.both(BIG, spot(3, 0), spot(4, 1))
        self.assertEqual(corners((0, 0), (3, 0), (4, 1), (4, 4), (0, 4)), left)
        self.assertEqual(corners((3, 0), (4, 0), (4, 1)), right)

    def test_nothing_on_one_side(self):
        # Along a side, through a corner alone, and past the patch.
        for one, other in (
            (spot(0, 0), spot(4, 0)), (spot(1, 0), spot(2, 0)), (spot(-3, 0), spot(-2, 0)),
            (spot(-1, 1), spot(1, -1)), (spot(-1, 0), spot(0, -1)), (spot(0, -5), spot(1, -5)), (spot(4, 1), spot(4, 2)),
        ):
            self.assertEqual((BIG, None), self.both(BIG, one, other))
            self.assertEqual((None, BIG), self.both(BIG, other, one))

    def test_each_patch_stays_beside_its_sides(self):
        for patch in PATCHES:
            for one, other in zip(patch, patch[1:] + patch[:1]):
                self.assertEqual((patch, None), self.both(patch, one, other))
                self.assertEqual((patch, None), self.both(patch, on_way(one, other, (-1, 1)), one))

    def test_through_each_two_corners(self):
        for patch in PATCHES:
            for j, k in itertools.combinations(range(len(patch)), 2):
                if k - j not in (1, len(patch) - 1):
                    left, right = self.both(patch, patch[j], patch[k])
                    self.assertEqual(patch_of(patch[k:] + patch[:j + 1]), left)
                    self.assertEqual(patch_of(patch[j:k + 1]), right)

    def test_alike_spots(self):
        for patch in PATCHES:
            for place in (spot(0, 0), spot(1, 1), spot("1/2", "-1/3"), patch[1], spot(FAR, -FAR)):
                self.assertRaises(NoLine, parted_by, patch, place, place)

    def check(self, patch, one, other):
        """All that is said of the parts, by the other reckoning."""
        p, q = values_of(one), values_of(other)
        parts = parted_by(patch, one, other)
        for part, sign in zip(parts, (1, -1)):
            turns = [sign * reckon.turn(p, q, point) for point in reckon.points_of(patch)]
            self.assertEqual(max(turns) <= 0, part is None)
            if part is not None:
                self.assertTrue(reckon.is_patch(part))
                self.assertTrue(all(sign * reckon.turn(p, q, point) >= 0 for point in reckon.points_of(part)))
                whole = reckon.points_of(patch)
                self.assertTrue(all(reckon.lies_in(point, whole) for point in reckon.points_of(part)))
        there = [part for part in parts if part is not None]
        self.assertEqual(reckon.twice(reckon.points_of(patch)), twice_of_all(there))
        return there

    def test_each_line_near(self):
        grid = [spot(x, y) for x in range(-1, 5) for y in range(-1, 4)]
        for patch in PATCHES:
            for one, other in itertools.permutations(grid[::2], 2):
                self.check(patch, one, other)

    def test_parted_again_and_again(self):
        chance = random.Random(12)
        for patch in PATCHES + [patch_of(stretched(HEXAGON))]:
            patches = [patch]
            for k in range(6):
                ends = [on_way(patch[chance.randrange(2)], patch[2], frac(Fraction(chance.randint(-9, 19), 10))),
                        on_way(patch[0], patch[1], frac(Fraction(chance.randint(1, 9), 11)))]
                patches = [part for whole in patches for part in self.check(whole, *ends)]
            self.assertGreater(len(patches), 3)

    def test_more_than_six_corners(self):
        patch = patch_of(HEXAGON)
        for k in range(6):
            one, other = patch[k], patch[(k + 1) % len(patch)]
            cut = on_way(other, one, (1, 5)), on_way(other, patch[(k + 2) % len(patch)], (1, 5))
            patch = self.check(patch, *cut)[0]
        self.assertEqual(12, len(patch))
        self.check(patch, patch[0], patch[5])
        self.check(patch, spot(1, "1/2"), spot(2, 1))

    def test_thirty_figures(self):
        thin = Fraction(1, FAR)
        patch = corners((-FAR, 0), (FAR, -FAR), (FAR - 1, FAR))
        self.check(patch, spot(thin, 1), spot(1 - thin, FAR))
        self.check(patch, spot(0, thin), spot(Fraction(FAR - 2, FAR), 0))

    def test_told_again(self):
        self.assertEqual(parted_by(BIG, spot(0, 1), spot(4, 2)), parted_by(BIG, spot(0, 1), spot(4, 2)))


class TestLeftOver(unittest.TestCase):
    def check(self, field, pieces):
        """All that is said of what is left, by the other reckoning."""
        told = left_over(field, pieces)
        self.assertIsInstance(told, list)
        border = reckon.points_of(field)
        for patch in told:
            self.assertTrue(reckon.is_patch(patch))
            self.assertTrue(all(reckon.lies_in(point, border) for point in reckon.points_of(patch)))
            for piece in pieces:
                self.assertFalse(reckon.lap(patch, piece))
        for one, other in itertools.combinations(told, 2):
            self.assertFalse(reckon.lap(one, other))
        within = [reckon.in_common(reckon.points_of(piece), border) for piece in pieces]
        within = [shape for shape in within if shape and reckon.twice(shape) > 0]
        self.assertEqual(reckon.twice(border) - reckon.twice_covered(within), twice_of_all(told))
        return told

    def test_of_a_cutting(self):
        for field, pieces in CUTTINGS:
            self.assertEqual([], left_over(field, pieces))
            self.assertEqual([], left_over(field, pieces[::-1]))

    def test_of_none(self):
        for field in FIELDS:
            for begun in cyclic(field):
                self.assertEqual([patch_of(field)], left_over(begun, []))

    def test_of_some_of_a_cutting(self):
        for field, pieces in WRITTEN + GROWN + GREAT[:6]:
            for some in (pieces[1:], pieces[:-1], pieces[::2], pieces[1::2]):
                told = self.check(field, some)
                self.assertEqual(twice_of_all(pieces) - twice_of_all(some), twice_of_all(told))

    def test_one_half(self):
        self.assertEqual([corners((0, 0), (1, 1), (0, 1))], left_over(SQUARE, HALVES[:1]))
        self.assertEqual([corners((0, 0), (1, 0), (1, 1))], left_over(SQUARE, HALVES[1:]))

    def test_beside_the_field(self):
        for piece in (
            corners((5, 0), (6, 0), (5, 1)), corners((0, 0), (0, -1), (1, 0)), corners((1, 1), (2, 1), (1, 2)),
            corners((0, 0), (-1, 1), (-1, 0)), corners((0, 2), (2, 0), (3, 3)),
        ):
            self.assertEqual([SQUARE], left_over(SQUARE, [piece]))
            self.assertEqual([SQUARE], left_over(SQUARE, [piece] * 30))

    def test_over_the_whole_field(self):
        wide = corners((-5, -5), (9, -5), (-5, 9))
        self.assertEqual([], left_over(SQUARE, [wide]))
        self.assertEqual([], left_over(SQUARE, HALVES + [wide]))
        self.assertEqual([], left_over(SQUARE, [wide] * 30))

    def test_a_hole(self):
        hole = corners(("1/4", "1/4"), ("3/4", "1/4"), ("1/4", "3/4"))
        told = self.check(SQUARE, [hole])
        self.assertEqual(Fraction(7, 4), twice_of_all(told))
        self.assertEqual(told, left_over(SQUARE, [hole, hole]))

    def test_a_patch_beside_a_piece_stays(self):
        told = left_over(SQUARE, [corners((0, 0), ("1/2", 0), (0, 1))])
        for patch in told:
            again = left_over(SQUARE, [corners((0, 0), ("1/2", 0), (0, 1)), patch[:3]])
            for other in told:
                if other != patch:
                    self.assertIn(other, again)

    def test_pieces_that_lap_and_go_beyond(self):
        chance = random.Random(13)
        for k in range(60):
            field = chance.choice(FIELDS)
            pieces = []
            while len(pieces) < 1 + k % 7:
                three = tuple(
                    spot(Fraction(chance.randint(-9, 15), 3), Fraction(chance.randint(-6, 12), 3)) for j in range(3)
                )
                pieces += [three] if is_piece(three) else []
            if k % 5 == 0:
                field, pieces = stretched(field), all_stretched(pieces)
            self.check(field, pieces)

    def test_pieces_of_a_cutting_and_others(self):
        for seed in range(6):
            pieces = grown(HEXAGON, 8, seed)[:4] + grown(HEXAGON, 6, seed + 50)[:3]
            self.check(HEXAGON, pieces)

    def test_in_each_turn_as_much_is_left(self):
        pieces = grown(PENTAGON, 6, 3)[:2] + [corners((1, 1), (5, 1), (1, 3))]
        for turn in itertools.permutations(pieces):
            self.check(PENTAGON, list(turn))

    def test_patches_handed_in_again(self):
        pieces = [corners((0, 0), (3, 1), (1, 2)), corners((1, -1), (4, 0), (2, 1))]
        told = left_over(PENTAGON, pieces)
        more = [piece for patch in told for piece in fan(patch)]
        self.assertEqual([], left_over(PENTAGON, pieces + more))

    def test_thirty(self):
        thirty = grown(SKEW, 30, 5)
        self.assertEqual([], left_over(SKEW, thirty))
        self.assertEqual(1, len(left_over(SKEW, thirty[:-1] + thirty[:1])))

    def test_thin(self):
        thin = Fraction(1, 10 ** 29)
        told = left_over(SQUARE, [corners((0, 0), (1, 0), (1, 1)), corners((0, 0), (1, 1), (thin, 1))])
        self.assertEqual([corners((0, 0), (thin, 1), (0, 1))], told)


class TestRefused(unittest.TestCase):
    def fault(self, field, pieces):
        with self.assertRaises(NoCutting) as caught:
            left_over(field, pieces)
        return caught.exception.fault

    def test_no_field(self):
        for thing in ODD_THINGS + (SQUARE[::-1], list(SQUARE), SQUARE[:2]):
            for pieces in (HALVES, [], None, [None], HALVES * 16):
                self.assertRaises(NoField, left_over, thing, pieces)

    def test_many(self):
        for thing in ODD_THINGS + (tuple(HALVES), HALVES[0], "piece"):
            if not isinstance(thing, list):
                self.assertEqual(("many",), self.fault(SQUARE, thing))
        self.assertEqual(("many",), self.fault(SQUARE, HALVES[:1] * 31))
        self.assertEqual(("many",), self.fault(SQUARE, [None] * 31))

    def test_no_pieces(self):
        line, right = corners((0, 0), (1, 1), (2, 2)), TRIANGLE[::-1]
        for thing in ODD_THINGS + (line, right, SQUARE, list(TRIANGLE)):
            self.assertEqual(("piece", 0), self.fault(SQUARE, [thing]))
            self.assertEqual(("piece", 2), self.fault(SQUARE, HALVES + [thing, TRIANGLE]))
            self.assertEqual(("piece", 1), self.fault(SQUARE, [TRIANGLE, thing, thing]))
        self.assertEqual(("piece", 0), self.fault(SQUARE, [None] * 30))

    def test_what_is_handed_in_stays(self):
        for pieces in (HALVES[:1], [], [corners((5, 0), (6, 0), (5, 1))], HALVES * 3, [None]):
            kept = copy.deepcopy(pieces)
            try:
                left_over(SQUARE, pieces)
            except NoCutting:
                pass
            self.assertEqual(kept, pieces)

    def test_told_lists_are_new(self):
        for pieces in ([], HALVES[:1], HALVES):
            told = left_over(SQUARE, pieces)
            kept = list(told)
            told.append(None)
            self.assertEqual(kept, left_over(SQUARE, pieces))


if __name__ == "__main__":
    unittest.main()
