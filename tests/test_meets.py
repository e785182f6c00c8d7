"""Promises 14, 15 and 16: the corners of a cutting, its bits, its meets and its counts."""

import copy
import random
import unittest
from fractions import Fraction

import reckon
from cuttings import (
    COMB, COMB_FIELD, CROSS, CUTTINGS, HALVES, QUARTERS, THIRD_AMID, UNLIKE, UNLIKE_FIELD, WHIRL, WHIRL_FIELD, grown,
)
from likeshards.errors import NoCutting, NoField
from likeshards.meets import bits_of, corners_of, counts_of, meets_of
from samples import HEXAGON, ODD_THINGS, SQUARE, TRIANGLE, corners, spot, values_of

ASKED = (
    corners_of, meets_of, counts_of, lambda field, pieces: bits_of(field, pieces, 0),
    lambda field, pieces: bits_of(field, pieces, 99), lambda field, pieces: bits_of(field, pieces, None),
)


def bits(*pairs):
    """The bits that lead from each of these spots to the next."""
    row = corners(*pairs)
    return [(row[k], row[k + 1]) for k in range(len(row) - 1)]


class TestCorners(unittest.TestCase):
    def test_written_out(self):
        self.assertEqual(list(corners((0, 0), (0, 1), (1, 0), (1, 1))), corners_of(SQUARE, HALVES))
        self.assertEqual(
            list(corners((0, 0), (0, 1), ("1/2", "1/2"), (1, 0), (1, 1))), corners_of(SQUARE, THIRD_AMID)
        )
        self.assertEqual(
            list(corners((0, 0), (0, 1), (0, 2), ("3/2", 0), ("3/2", 1), (3, 0))), corners_of(TRIANGLE, QUARTERS)
        )

    def test_each_once_and_in_order(self):
        for field, pieces in CUTTINGS:
            told = corners_of(field, pieces)
            self.assertIsInstance(told, list)
            places = [values_of(place) for place in told]
            self.assertEqual(sorted(places), places)
            self.assertEqual(len(set(told)), len(told))
            self.assertEqual({corner for piece in pieces for corner in piece}, set(told))

    def test_order_of_fractions(self):
        # Neither by tops nor by bottoms, nor as texts.
        pieces = [corners((0, 0), (1, 0), ("1/3", "2/3")), corners((1, 0), (1, 1), ("1/3", "2/3")),
                  corners((1, 1), (0, 1), ("1/3", "2/3")), corners((0, 1), (0, "1/2"), ("1/3", "2/3")),
                  corners((0, "1/2"), (0, 0), ("1/3", "2/3"))]
        right = corners((0, 0), (0, "1/2"), (0, 1), ("1/3", "2/3"), (1, 0), (1, 1))
        self.assertEqual(list(right), corners_of(SQUARE, pieces))

    def test_below_nought(self):
        field = corners((-10, -10), (-2, -10), (-10, -2))
        self.assertEqual(list(corners((-10, -10), (-10, -2), (-2, -10))), corners_of(field, [field]))

    def test_in_any_turn(self):
        for seed in range(5):
            pieces = grown(HEXAGON, 9, seed)
            right = corners_of(HEXAGON, pieces)
            random.Random(seed).shuffle(pieces)
            self.assertEqual(right, corners_of(HEXAGON, [piece[1:] + piece[:1] for piece in pieces]))


class TestBits(unittest.TestCase):
    def test_no_corner_amid(self):
        self.assertEqual(bits((0, 0), (1, 0), (1, 1), (0, 0)), bits_of(SQUARE, HALVES, 0))
        self.assertEqual(bits((0, 0), (1, 1), (0, 1), (0, 0)), bits_of(SQUARE, HALVES, 1))

    def test_a_corner_amid(self):
        self.assertEqual(bits((0, 0), (1, 0), (1, 1), ("1/2", "1/2"), (0, 0)), bits_of(SQUARE, THIRD_AMID, 0))
        self.assertEqual(bits((0, 0), ("1/2", "1/2"), (0, 1), (0, 0)), bits_of(SQUARE, THIRD_AMID, 1))

    def test_three_corners_amid(self):
        self.assertEqual(bits((0, 0), (4, 0), (3, 1), (2, 2), (1, 3), (0, 4), (0, 0)), bits_of(COMB_FIELD, COMB, 0))

    def test_each_way_of_the_side(self):
        # Each turn of the piece's corners leads along the parted side the same way.
        for k in range(3):
            turned = [COMB[0][k:] + COMB[0][:k]] + COMB[1:]
            row = bits((4, 0), (3, 1), (2, 2), (1, 3), (0, 4))
            told = bits_of(COMB_FIELD, turned, 0)
            self.assertEqual(COMB[0][k], told[0][0])
            at = told.index(row[0])
            self.assertEqual(row, told[at:at + 4])

    def test_unlike_on_two_sides_of_a_line(self):
        self.assertEqual(bits((2, 0), (3, 0), (4, 0), (0, 2), (2, 0)), bits_of(UNLIKE_FIELD, UNLIKE, 1))
        self.assertEqual(bits((0, 0), (0, -2), (3, 0), (2, 0), (0, 0)), bits_of(UNLIKE_FIELD, UNLIKE, 3))
        self.assertEqual(bits((3, 0), (0, -2), (6, 0), (4, 0), (3, 0)), bits_of(UNLIKE_FIELD, UNLIKE, 4))

    def test_whirl(self):
        # Each side of the middle piece is a part of a longer side.
        self.assertEqual([3, 4, 4, 4], sorted(len(bits_of(WHIRL_FIELD, WHIRL, k)) for k in range(4)))
        self.assertEqual(3, len(bits_of(WHIRL_FIELD, WHIRL, 3)))

    def test_by_the_other_reckoning(self):
        for field, pieces in CUTTINGS:
            for k, piece in enumerate(pieces):
                told = bits_of(field, pieces, k)
                self.assertIsInstance(told, list)
                self.assertEqual(reckon.bits(pieces, piece), told)

    def test_hardly_beside(self):
        thin = Fraction(1, 10 ** 28)
        # The corner lies hardly beside the diagonal, so it doesn't part it.
        pieces = [corners((0, 0), (1, 0), (1, 1)), corners((0, 0), (1, 1), ("1/2", Fraction(1, 2) + thin)),
                  corners((0, 0), ("1/2", Fraction(1, 2) + thin), (0, 1)),
                  corners(("1/2", Fraction(1, 2) + thin), (1, 1), (0, 1))]
        self.assertEqual(3, len(bits_of(SQUARE, pieces, 0)))


class TestMeets(unittest.TestCase):
    def test_written_out(self):
        (a, b, c), d = corners((0, 0), (1, 0), (1, 1)), spot(0, 1)
        self.assertEqual(
            [[(a, b, None), (b, c, None), (c, a, 1)], [(a, c, 0), (c, d, None), (d, a, None)]], meets_of(SQUARE, HALVES)
        )

    def test_a_corner_amid(self):
        (a, b, c), d, m = corners((0, 0), (1, 0), (1, 1)), spot(0, 1), spot("1/2", "1/2")
        self.assertEqual([
            [(a, b, None), (b, c, None), (c, m, 2), (m, a, 1)],
            [(a, m, 0), (m, d, 2), (d, a, None)],
            [(m, c, 0), (c, d, None), (d, m, 1)],
        ], meets_of(SQUARE, THIRD_AMID))

    def test_one_piece(self):
        a, b, c = TRIANGLE
        self.assertEqual([[(a, b, None), (b, c, None), (c, a, None)]], meets_of(TRIANGLE, [TRIANGLE]))

    def test_as_the_bits(self):
        for field, pieces in CUTTINGS:
            told = meets_of(field, pieces)
            self.assertEqual(len(pieces), len(told))
            for k, row in enumerate(told):
                self.assertIsInstance(row, list)
                self.assertEqual(bits_of(field, pieces, k), [(start, end) for start, end, other in row])

    def test_the_other_side(self):
        for field, pieces in CUTTINGS:
            told = meets_of(field, pieces)
            for k, row in enumerate(told):
                for start, end, other in row:
                    self.assertEqual(reckon.on_border(field, (start, end)), other is None)
                    owners = [j for j, bits_there in enumerate(told)
                              for there in bits_there if there[:2] == (end, start)]
                    self.assertEqual([] if other is None else [other], owners)
                    if other is not None:
                        self.assertIn((end, start, k), told[other])
                        self.assertNotEqual(k, other)


class TestCounts(unittest.TestCase):
    def test_written_out(self):
        for right, field, pieces in (
            ((3, 3, 1), TRIANGLE, [TRIANGLE]), ((4, 5, 2), SQUARE, HALVES), ((5, 8, 4), SQUARE, CROSS),
            ((5, 7, 3), SQUARE, THIRD_AMID), ((6, 9, 4), TRIANGLE, QUARTERS), ((6, 9, 4), WHIRL_FIELD, WHIRL),
            ((7, 11, 5), COMB_FIELD, COMB), ((7, 11, 5), UNLIKE_FIELD, UNLIKE),
        ):
            self.assertEqual(right, counts_of(field, pieces))

    def test_all(self):
        for field, pieces in CUTTINGS:
            told = counts_of(field, pieces)
            self.assertIsInstance(told, tuple)
            edges = {frozenset(bit) for k in range(len(pieces)) for bit in bits_of(field, pieces, k)}
            self.assertEqual((len(corners_of(field, pieces)), len(edges), len(pieces)), told)
            self.assertEqual(1, told[0] - told[1] + told[2])

    def test_thirty(self):
        for seed in range(3):
            pieces = grown(HEXAGON, 30, seed)
            told = counts_of(HEXAGON, pieces)
            self.assertEqual((30, 1), (told[2], told[0] - told[1] + told[2]))


class TestRefused(unittest.TestCase):
    def test_no_field(self):
        for ask in ASKED:
            for thing in ODD_THINGS + (SQUARE[::-1], list(SQUARE), SQUARE[:2]):
                for pieces in (HALVES, [], None):
                    self.assertRaises(NoField, ask, thing, pieces)

    def test_no_cutting(self):
        one, other = HALVES
        for ask in ASKED:
            for fault, pieces in (
                (("many",), []), (("many",), None), (("many",), tuple(HALVES)), (("many",), [one] * 31),
                (("piece", 1), [one, None]), (("beyond", 1), [one, TRIANGLE]), (("lap", 0, 1), [one, one]),
                (("left", (1, 2)), [one]),
            ):
                with self.assertRaises(NoCutting) as caught:
                    ask(SQUARE, pieces)
                self.assertEqual(fault, caught.exception.fault)

    def test_what_is_handed_in_stays(self):
        for field, pieces in CUTTINGS[:12]:
            kept = copy.deepcopy(pieces)
            for ask in ASKED[:4]:
                ask(field, pieces)
                self.assertEqual(kept, pieces)

    def test_told_lists_may_be_changed(self):
        for ask in ASKED[:2] + ASKED[3:4]:
            told = ask(SQUARE, THIRD_AMID)
            kept = copy.deepcopy(told)
            for row in told:
                if isinstance(row, list):
                    row.reverse()
                    row.append(None)
            told.clear()
            self.assertEqual(kept, ask(SQUARE, THIRD_AMID))

    def test_handed_in_lists_may_be_changed(self):
        pieces = list(THIRD_AMID)
        told = meets_of(SQUARE, pieces)
        kept = copy.deepcopy(told)
        pieces[:] = HALVES
        self.assertEqual(kept, told)
        self.assertEqual(2, len(meets_of(SQUARE, pieces)))


if __name__ == "__main__":
    unittest.main()
