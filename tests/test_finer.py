"""Promises 37, 38 and 39: pieces cut at a spot, holders, and cuttings laid over one another."""

import copy
import random
import unittest
from fractions import Fraction

import reckon
from cuttings import COMB, COMB_FIELD, CROSS, CUTTINGS, GREAT, GROWN, HALVES, QUARTERS, THIRD_AMID, WHIRL, WHIRL_FIELD
from cuttings import WRITTEN, all_stretched, fan, grown, star, stretched
from likeshards.errors import NoCutting, NoField, NoSpot, TooMany
from likeshards.fans import fan_cut
from likeshards.finer import cut_at, holders_of, is_finer, laid_over
from likeshards.left import left_over
from likeshards.pieces import fault_of, is_piece
from samples import FIELDS, HEXAGON, ODD_THINGS, PENTAGON, SQUARE, TRIANGLE, corners, frac, spot, values_of

MIDDLE = spot("1/2", "1/2")
NO_FIELDS = ODD_THINGS + (SQUARE[::-1], list(SQUARE), SQUARE[:2])
TURNED_HALVES = fan(SQUARE, 1)


def mixed(piece, weights):
    """The spot of a piece by weights of its corners."""
    total = sum(weights)
    points = reckon.points_of(piece)
    return spot(*[sum(Fraction(w, total) * point[k] for w, point in zip(weights, points)) for k in range(2)])


class TestCutAt(unittest.TestCase):
    def test_inside(self):
        a, b, c, d = SQUARE
        place = spot("2/3", "1/3")
        self.assertEqual([(place, a, b), (place, b, c), (place, c, a), HALVES[1]], cut_at(SQUARE, HALVES, 0, place))
        place = spot("1/3", "2/3")
        self.assertEqual([HALVES[0], (place, a, c), (place, c, d), (place, d, a)], cut_at(SQUARE, HALVES, 1, place))

    def test_on_each_side(self):
        a, b, c, d = SQUARE
        for place, parts in (
            (spot("1/3", 0), lambda s: [(a, s, c), (s, b, c)]),
            (spot(1, "1/3"), lambda s: [(b, s, a), (s, c, a)]),
            (spot("1/3", "1/3"), lambda s: [(c, s, b), (s, a, b)]),
        ):
            self.assertEqual(parts(place) + [HALVES[1]], cut_at(SQUARE, HALVES, 0, place))

    def test_ahead_and_behind(self):
        for k in range(4):
            one, other, third = QUARTERS[k]
            place = mixed(QUARTERS[k], (1, 2, 3))
            told = cut_at(TRIANGLE, QUARTERS, k, place)
            self.assertEqual(
                QUARTERS[:k] + [(place, one, other), (place, other, third), (place, third, one)] + QUARTERS[k + 1:], told
            )
            place = mixed(QUARTERS[k], (0, 2, 3))
            told = cut_at(TRIANGLE, QUARTERS, k, place)
            self.assertEqual(QUARTERS[:k] + [(other, place, one), (place, third, one)] + QUARTERS[k + 1:], told)

    def test_what_comes_is_a_cutting(self):
        chance = random.Random(37)
        for field, pieces in WRITTEN + GROWN[:8] + GREAT[:6]:
            for k in range(len(pieces)):
                weights = [chance.randint(1, 5) for j in range(3)]
                for without in (None, chance.randrange(3)):
                    if without is not None:
                        weights[without] = 0
                    kept = list(pieces)
                    told = cut_at(field, pieces, k, mixed(pieces[k], weights))
                    self.assertEqual(kept, pieces)
                    self.assertIsInstance(told, list)
                    self.assertEqual(len(pieces) + (2 if without is None else 1), len(told))
                    self.assertIsNone(fault_of(field, told))
                    self.assertTrue(is_finer(field, told, pieces))

    def test_no_such_spot(self):
        for field, pieces in WRITTEN:
            for k, piece in enumerate(pieces):
                for corner in piece:
                    self.assertRaises(NoSpot, cut_at, field, pieces, k, corner)
                for weights in ((3, -1, 0), (0, 3, -1), (-1, 0, 3), (1, 1, -1), (-1, 4, 4), (9, -1, 9)):
                    self.assertRaises(NoSpot, cut_at, field, pieces, k, mixed(piece, weights))

    def test_in_another_piece(self):
        self.assertRaises(NoSpot, cut_at, SQUARE, HALVES, 0, spot("1/3", "2/3"))
        self.assertRaises(NoSpot, cut_at, SQUARE, HALVES, 1, spot("2/3", "1/3"))
        self.assertRaises(NoSpot, cut_at, SQUARE, HALVES, 1, spot("1/2", 0))

    def test_no_number_of_a_piece(self):
        place = spot("2/3", "1/3")
        for k in (2, -1, -2, 30, True, False, None, "0", (0,), [0], [], (0, 1), 10 ** 30 - 1, HALVES[0]):
            with self.subTest(k):
                self.assertRaises(NoSpot, cut_at, SQUARE, HALVES, k, place)

    def test_no_spot(self):
        for thing in ODD_THINGS + (((1, 2), (2, 4)), [(1, 2), (1, 3)]):
            self.assertRaises(NoSpot, cut_at, SQUARE, HALVES, 0, thing)

    def test_too_many(self):
        for many, inside, on_side in ((27, 29, 28), (28, 30, 29), (29, None, 30), (30, None, None)):
            pieces = fan_cut(TRIANGLE, 0, many)
            for k in (0, 5, many - 1):
                for weights, comes in (((1, 1, 1), inside), ((1, 1, 0), on_side), ((0, 1, 2), on_side)):
                    place = mixed(pieces[k], weights)
                    if comes is None:
                        self.assertRaises(TooMany, cut_at, TRIANGLE, pieces, k, place)
                    else:
                        self.assertEqual(comes, len(cut_at(TRIANGLE, pieces, k, place)))

    def test_which_goes_first(self):
        full = fan_cut(TRIANGLE, 0, 30)
        inside = mixed(full[0], (1, 1, 1))
        for thing in NO_FIELDS:
            self.assertRaises(NoField, cut_at, thing, None, None, None)
            self.assertRaises(NoField, cut_at, thing, full, 0, inside)
        for pieces in (None, [], full[:29], full + full[:1], [None]):
            self.assertRaises(NoCutting, cut_at, TRIANGLE, pieces, 99, None)
            self.assertRaises(NoCutting, cut_at, TRIANGLE, pieces, 0, inside)
        self.assertRaises(NoSpot, cut_at, TRIANGLE, full, 30, inside)
        self.assertRaises(NoSpot, cut_at, TRIANGLE, full, 1, inside)
        self.assertRaises(NoSpot, cut_at, TRIANGLE, full, 0, full[0][0])
        self.assertRaises(TooMany, cut_at, TRIANGLE, full, 0, inside)

    def test_the_fault(self):
        with self.assertRaises(NoCutting) as caught:
            cut_at(SQUARE, HALVES[:1], 0, spot("2/3", "1/3"))
        self.assertEqual(("left", frac("1/2")), caught.exception.fault)

    def test_told_anew(self):
        pieces = list(HALVES)
        place = spot("2/3", "1/3")
        told = cut_at(SQUARE, pieces, 0, place)
        kept = list(told)
        told.clear()
        pieces.pop()
        self.assertEqual(kept, cut_at(SQUARE, list(HALVES), 0, place))


def right_holders(pieces, others):
    told = []
    for piece in pieces:
        found = [k for k, other in enumerate(others)
                 if all(reckon.lies_in(point, reckon.points_of(other)) for point in reckon.points_of(piece))]
        told.append(found[0] if found else None)
    return told


def pairs():
    """Pairs of cuttings of one field."""
    told = []
    for seed, field in enumerate(FIELDS):
        several = [fan(field), fan(field, 1), grown(field, 6, seed), grown(field, 8, seed + 50)]
        several += [several[2][::-1], cut_at(field, several[2], 0, mixed(several[2][0], (1, 1, 1)))]
        told += [(field, one, other) for one in several for other in several]
    told += [(stretched(field), all_stretched(one), all_stretched(other)) for field, one, other in told[::17]]
    return told


PAIRS = pairs()


class TestHolders(unittest.TestCase):
    def test_written_out(self):
        self.assertEqual([0, 1], holders_of(SQUARE, HALVES, HALVES))
        self.assertEqual([1, 0], holders_of(SQUARE, HALVES, HALVES[::-1]))
        self.assertEqual([None, None], holders_of(SQUARE, HALVES, TURNED_HALVES))
        self.assertEqual([0, 0, 1, 1], holders_of(SQUARE, CROSS, HALVES))
        self.assertEqual([None, None], holders_of(SQUARE, HALVES, CROSS))
        self.assertEqual([0, 1, 1], holders_of(SQUARE, THIRD_AMID, HALVES))
        self.assertEqual([0, None], holders_of(SQUARE, HALVES, THIRD_AMID))
        self.assertEqual([0] * 4, holders_of(TRIANGLE, QUARTERS, [TRIANGLE]))
        self.assertEqual([None], holders_of(TRIANGLE, [TRIANGLE], QUARTERS))

    def test_some(self):
        seen = set()
        for field, one, other in PAIRS:
            told = holders_of(field, one, other)
            self.assertIsInstance(told, list)
            self.assertEqual(right_holders(one, other), told)
            seen |= {None in told, any(holder is not None for holder in told)}
            self.assertIs(None not in told, is_finer(field, one, other))
        self.assertEqual({True, False}, seen)

    def test_of_itself(self):
        # Since no two lap, each piece is held by itself alone.
        for field, pieces in CUTTINGS:
            self.assertEqual(list(range(len(pieces))), holders_of(field, pieces, pieces))

    def test_finer(self):
        for one, other, right in (
            (CROSS, HALVES, True), (HALVES, CROSS, False), (HALVES, HALVES[::-1], True), (THIRD_AMID, HALVES, True),
            (HALVES, THIRD_AMID, False), (CROSS, TURNED_HALVES, True), (HALVES, TURNED_HALVES, False),
            (TURNED_HALVES, HALVES, False), (CROSS, THIRD_AMID, True), (THIRD_AMID, CROSS, False),
        ):
            self.assertIs(right, is_finer(SQUARE, one, other))

    def test_refused(self):
        for ask in (holders_of, is_finer, laid_over):
            for thing in NO_FIELDS:
                self.assertRaises(NoField, ask, thing, HALVES, HALVES)
                self.assertRaises(NoField, ask, thing, None, None)
            # The fault tells which of both was refused.
            for one, other, fault in (
                (None, HALVES, ("many",)), (HALVES, None, ("many",)), ([], HALVES[:1], ("many",)),
                (HALVES[:1], [], ("left", (1, 2))), (HALVES, [HALVES[0], HALVES[0]], ("lap", 0, 1)),
                ([None], [], ("piece", 0)), (HALVES, [HALVES[0], 5], ("piece", 1)),
                (QUARTERS, HALVES, ("beyond", 0)), (HALVES, QUARTERS, ("beyond", 0)),
            ):
                with self.assertRaises(NoCutting) as caught:
                    ask(SQUARE, one, other)
                self.assertEqual(fault, caught.exception.fault)


def right_laid(one, other):
    """The pieces of two cuttings laid over one another, by Fractions."""
    told = []
    for piece in one:
        for another in other:
            points = reckon.in_common(reckon.points_of(piece), reckon.points_of(another))
            if reckon.twice(points) == 0:
                continue
            ring = [point for k, point in enumerate(points) if point != points[k - 1]]
            ring = [point for k, point in enumerate(ring)
                    if reckon.turn(ring[k - 1], point, ring[(k + 1) % len(ring)]) != 0]
            first = ring.index(min(ring))
            ring = ring[first:] + ring[:first]
            told += [corners(ring[0], ring[k], ring[k + 1]) for k in range(1, len(ring) - 1)]
    return told


def star_around(field, piece):
    """What lies in a square beside a piece, cut to pieces."""
    return [part for patch in left_over(field, [piece]) for part in fan(patch)]


def with_so_many(many):
    """Two cuttings of a triangle, laid over one another in so many pieces."""
    chance = random.Random(many)
    while True:
        first = grown(TRIANGLE, chance.randint(3, 8), chance.random())
        second = grown(TRIANGLE, chance.randint(3, 8), chance.random())
        if len(right_laid(first, second)) == many:
            return first, second


class TestLaidOver(unittest.TestCase):
    def test_crossed_halves(self):
        a, b, c, d = SQUARE
        right = [(MIDDLE, b, c), (a, b, MIDDLE), (d, MIDDLE, c), (a, MIDDLE, d)]
        self.assertEqual(right, laid_over(SQUARE, HALVES, TURNED_HALVES))
        right = [(MIDDLE, b, c), (d, MIDDLE, c), (a, b, MIDDLE), (a, MIDDLE, d)]
        self.assertEqual(right, laid_over(SQUARE, TURNED_HALVES, HALVES))

    def test_itself(self):
        # Each piece is told begun with the corner ahead of all others.
        self.assertEqual(HALVES, laid_over(SQUARE, HALVES, HALVES))
        turned = [piece[1:] + piece[:1] for piece in HALVES]
        self.assertEqual(HALVES, laid_over(SQUARE, turned, turned))
        self.assertEqual([TRIANGLE], laid_over(TRIANGLE, [TRIANGLE], [TRIANGLE]))

    def test_six_corners_in_common(self):
        field = corners((0, 0), (6, 0), (6, 6), (0, 6))
        one = corners((0, 2), (4, 0), (4, 6))
        other = corners((1, 0), (6, 3), (1, 6))
        points = reckon.in_common(reckon.points_of(one), reckon.points_of(other))
        self.assertEqual(6, len(set(points)))
        ones = [one, *star_around(field, one)]
        others = [other, *star_around(field, other)]
        for pieces in (ones, others):
            self.assertIsNone(fault_of(field, pieces))
        right = right_laid(ones, others)
        self.assertEqual(right_laid([one], [other]), right[:4])
        self.assertEqual(right, laid_over(field, ones, others))

    def test_some(self):
        cut = refused = 0
        for field, one, other in PAIRS:
            right = right_laid(one, other)
            if len(one) > 8 or len(other) > 8 or len(right) > 30:
                refused += 1
                self.assertRaises(TooMany, laid_over, field, one, other)
                continue
            cut += 1
            told = laid_over(field, one, other)
            self.assertIsInstance(told, list)
            self.assertEqual(right, told)
            self.assertTrue(all(is_piece(piece) for piece in told))
            self.assertIsNone(fault_of(field, told))
            self.assertTrue(is_finer(field, told, one))
            self.assertTrue(is_finer(field, told, other))
        self.assertGreater(cut, 100)
        self.assertGreater(refused, 5)

    def test_patches_of_each_size(self):
        seen = set()
        for field, one, other in PAIRS:
            for piece in one:
                for another in other:
                    patch = right_laid([piece], [another])
                    seen.add(len(patch))
        self.assertLessEqual({0, 1, 2, 3}, seen)

    def test_each_begun_with_the_corner_ahead(self):
        told = laid_over(HEXAGON, fan(HEXAGON), fan(HEXAGON, 2))
        for piece in told:
            self.assertEqual(min(reckon.points_of(piece)), values_of(piece[0]))

    def test_more_than_eight(self):
        eight, nine = fan_cut(TRIANGLE, 0, 8), fan_cut(TRIANGLE, 0, 9)
        whole = [TRIANGLE]
        self.assertEqual(8, len(laid_over(TRIANGLE, eight, whole)))
        self.assertEqual(8, len(laid_over(TRIANGLE, whole, eight)))
        self.assertEqual(8, len(laid_over(TRIANGLE, eight, eight)))
        # Refused also where few would come.
        for one, other in ((nine, whole), (whole, nine), (nine, nine), (nine, eight)):
            self.assertRaises(TooMany, laid_over, TRIANGLE, one, other)

    def test_more_than_thirty(self):
        counts = {}
        for one in range(1, 9):
            for other in range(1, 9):
                first, second = fan_cut(TRIANGLE, 0, one), fan_cut(TRIANGLE, 1, other)
                right = right_laid(first, second)
                counts[len(right)] = True
                if len(right) > 30:
                    self.assertRaises(TooMany, laid_over, TRIANGLE, first, second)
                else:
                    self.assertEqual(right, laid_over(TRIANGLE, first, second))
        self.assertGreater(max(counts), 31)

    def test_just_thirty(self):
        for many, lets in ((29, True), (30, True), (31, False), (32, False)):
            first, second = with_so_many(many)
            self.assertEqual(many, len(right_laid(first, second)))
            if lets:
                self.assertEqual(right_laid(first, second), laid_over(TRIANGLE, first, second))
            else:
                self.assertRaises(TooMany, laid_over, TRIANGLE, first, second)

    def test_too_many_is_last(self):
        nine = fan_cut(TRIANGLE, 0, 9)
        self.assertRaises(NoField, laid_over, TRIANGLE[::-1], nine, nine)
        with self.assertRaises(NoCutting) as caught:
            laid_over(TRIANGLE, nine, [])
        self.assertEqual(("many",), caught.exception.fault)
        with self.assertRaises(NoCutting) as caught:
            laid_over(TRIANGLE, nine[:8], nine)
        self.assertEqual("left", caught.exception.fault[0])

    def test_nothing_is_changed(self):
        one, other = list(HALVES), list(TURNED_HALVES)
        told = laid_over(SQUARE, one, other)
        kept = copy.deepcopy(told)
        self.assertEqual((HALVES, TURNED_HALVES), (one, other))
        told.clear()
        one.clear()
        self.assertEqual(kept, laid_over(SQUARE, list(HALVES), other))

    def test_written(self):
        for field, pieces in ((WHIRL_FIELD, WHIRL), (COMB_FIELD, COMB), (PENTAGON, star(PENTAGON, spot(2, 1)))):
            for c in range(len(field)):
                told = laid_over(field, pieces, fan(field, c))
                self.assertEqual(right_laid(pieces, fan(field, c)), told)
                self.assertIsNone(fault_of(field, told))


if __name__ == "__main__":
    unittest.main()
