"""Promises 20 and 21: doors, full pieces, the border's doors and odd sides."""

import copy
import unittest

import reckon
from cuttings import (
    CROSS, CUTTINGS, HALVES, PLAIN_FRAME, THIRD_AMID, TRIED_PRIMES, WEAVE, WEAVE_FIELD, frames_for, grown,
)
from likeshards.doors import border_doors, doors_of, full_of, odd_sides
from likeshards.errors import NoCutting, NoField, NoFrame, NoPrime
from samples import FIELDS, HEXAGON, ODD_THINGS, SQUARE, TRIANGLE, corners

ON_A_LINE = corners((0, 0), (1, 1), (2, 2))
ASKED = (
    full_of, border_doors, lambda *told: doors_of(*told, 0), lambda *told: doors_of(*told, 99),
    lambda *told: doors_of(*told, None),
)


def seen_by():
    """Each cutting by several frames and primes."""
    for field, pieces in CUTTINGS:
        for k, frame in enumerate(frames_for(field, pieces)):
            for prime in TRIED_PRIMES[k % 2::2]:
                yield field, pieces, frame, prime


class TestDoors(unittest.TestCase):
    def test_halves(self):
        # The corners have the colours 0, 1, 1, 2.
        self.assertEqual([0, 2], doors_of(SQUARE, HALVES, PLAIN_FRAME, 2, 0))
        self.assertEqual([0], doors_of(SQUARE, HALVES, PLAIN_FRAME, 2, 1))
        self.assertEqual([1], full_of(SQUARE, HALVES, PLAIN_FRAME, 2))
        self.assertEqual([(0, 0)], border_doors(SQUARE, HALVES, PLAIN_FRAME, 2))
        self.assertEqual([0], odd_sides(SQUARE, PLAIN_FRAME, 2))

    def test_a_corner_amid(self):
        # The middle has the colour 1, by 3 as by 2.
        for prime in (2, 3):
            self.assertEqual([0, 3], doors_of(SQUARE, THIRD_AMID, PLAIN_FRAME, prime, 0))
            self.assertEqual([0], doors_of(SQUARE, THIRD_AMID, PLAIN_FRAME, prime, 1))
            self.assertEqual([], doors_of(SQUARE, THIRD_AMID, PLAIN_FRAME, prime, 2))
            self.assertEqual([1], full_of(SQUARE, THIRD_AMID, PLAIN_FRAME, prime))

    def test_many_doors(self):
        self.assertEqual([0, 1, 2, 3], doors_of(WEAVE_FIELD, WEAVE, PLAIN_FRAME, 2, 0))
        self.assertEqual([[0, 2], [1, 2], [0, 2], [1, 2]],
                         [doors_of(WEAVE_FIELD, WEAVE, PLAIN_FRAME, 2, k) for k in range(1, 5)])
        self.assertEqual([], full_of(WEAVE_FIELD, WEAVE, PLAIN_FRAME, 2))
        self.assertEqual([(1, 0), (4, 1)], border_doors(WEAVE_FIELD, WEAVE, PLAIN_FRAME, 2))
        self.assertEqual([1, 2], odd_sides(WEAVE_FIELD, PLAIN_FRAME, 2))

    def test_the_other_end_first(self):
        # From colour 1 to colour 0 is a door as well as from 0 to 1.
        turned = [(c, a, b) for a, b, c in HALVES]
        self.assertEqual([0, 1], doors_of(SQUARE, turned, PLAIN_FRAME, 2, 0))
        self.assertEqual([0], odd_sides(SQUARE, PLAIN_FRAME, 2))
        self.assertEqual([3], odd_sides(SQUARE[1:] + SQUARE[:1], PLAIN_FRAME, 2))

    def test_by_the_other_reckoning(self):
        for field, pieces, frame, prime in seen_by():
            sight = reckon.Sight(field, pieces, frame, prime)
            told = [doors_of(field, pieces, frame, prime, k) for k in range(0, len(pieces), 3)]
            self.assertEqual(sight.doors[::3], told)
            self.assertEqual(sight.full, full_of(field, pieces, frame, prime))
            self.assertEqual(sight.border, border_doors(field, pieces, frame, prime))

    def test_lists_of_numbers(self):
        for told in (
            doors_of(SQUARE, CROSS, PLAIN_FRAME, 2, 0), full_of(SQUARE, CROSS, PLAIN_FRAME, 2),
            odd_sides(SQUARE, PLAIN_FRAME, 2),
        ):
            self.assertIsInstance(told, list)
            self.assertTrue(all(type(number) is int for number in told))
        for door in border_doors(SQUARE, CROSS, PLAIN_FRAME, 2):
            self.assertIsInstance(door, tuple)

    def test_odd_doors_just_where_full(self):
        seen = set()
        for seed, prime in enumerate(TRIED_PRIMES[:4]):
            pieces = grown(HEXAGON, 12, seed, 4)
            for frame in frames_for(HEXAGON, pieces):
                full = full_of(HEXAGON, pieces, frame, prime)
                for k in range(len(pieces)):
                    odd = len(doors_of(HEXAGON, pieces, frame, prime, k)) % 2 == 1
                    self.assertEqual(k in full, odd)
                    seen.add(odd)
        self.assertEqual({True, False}, seen)

    def test_all_three_odd_or_none(self):
        seen = set()
        for field, pieces, frame, prime in seen_by():
            many = (
                len(full_of(field, pieces, frame, prime)), len(border_doors(field, pieces, frame, prime)),
                len(odd_sides(field, frame, prime)),
            )
            self.assertEqual(1, len({number % 2 for number in many}))
            seen.add(many[0] % 2)
        self.assertEqual({0, 1}, seen)


class TestOddSides(unittest.TestCase):
    def test_by_the_other_reckoning(self):
        for field in FIELDS:
            for frame in frames_for(field, [field[:3]]):
                for prime in TRIED_PRIMES:
                    tint = [reckon.colour(frame, prime, corner) for corner in field]
                    right = [k for k, one in enumerate(tint) if {one, (tint[1:] + tint[:1])[k]} == {0, 1}]
                    self.assertEqual(right, odd_sides(field, frame, prime))

    def test_the_last_side(self):
        # The corners have the colours 1, 1, 2, 0.
        self.assertEqual([3], odd_sides(SQUARE, (SQUARE[3], SQUARE[0], SQUARE[2]), 2))


class TestRefused(unittest.TestCase):
    def test_in_turn(self):
        one = HALVES[0]
        for ask in ASKED:
            for frame in (PLAIN_FRAME, ON_A_LINE):
                for prime in (2, 4):
                    self.assertRaises(NoField, ask, SQUARE[::-1], HALVES, frame, prime)
                    self.assertRaises(NoField, ask, SQUARE[::-1], [one], frame, prime)
                    with self.assertRaises(NoCutting) as caught:
                        ask(SQUARE, [one], frame, prime)
                    self.assertEqual(("left", (1, 2)), caught.exception.fault)
            self.assertRaises(NoFrame, ask, SQUARE, HALVES, ON_A_LINE, 2)
            self.assertRaises(NoFrame, ask, SQUARE, HALVES, ON_A_LINE, 4)
            self.assertRaises(NoPrime, ask, SQUARE, HALVES, PLAIN_FRAME, 4)

    def test_of_anything(self):
        for ask in ASKED:
            for thing in ODD_THINGS:
                self.assertRaises(NoField, ask, thing, HALVES, PLAIN_FRAME, 2)
                self.assertRaises(NoCutting, ask, SQUARE, thing, PLAIN_FRAME, 2)
                self.assertRaises(NoPrime, ask, SQUARE, HALVES, PLAIN_FRAME, thing)

    def test_frames(self):
        for frame in (ON_A_LINE, (SQUARE[0],) * 3, (SQUARE[0], SQUARE[1], SQUARE[0]), (TRIANGLE[1],) + SQUARE[:1] * 2):
            for ask in ASKED:
                self.assertRaises(NoFrame, ask, SQUARE, HALVES, frame, 2)
            self.assertRaises(NoFrame, odd_sides, SQUARE, frame, 2)

    def test_odd_sides(self):
        for frame in (PLAIN_FRAME, ON_A_LINE):
            for prime in (2, 4):
                self.assertRaises(NoField, odd_sides, SQUARE[::-1], frame, prime)
        self.assertRaises(NoFrame, odd_sides, SQUARE, ON_A_LINE, 4)
        for thing in ODD_THINGS + (4, 101, -2):
            self.assertRaises(NoPrime, odd_sides, SQUARE, PLAIN_FRAME, thing)
            self.assertRaises(NoField, odd_sides, thing, PLAIN_FRAME, 2)

    def test_nothing_is_kept_or_changed(self):
        for ask in ASKED[:3]:
            pieces = list(HALVES)
            told = ask(SQUARE, pieces, PLAIN_FRAME, 2)
            kept = copy.deepcopy(told)
            self.assertEqual(HALVES, pieces)
            told.append(None)
            self.assertEqual(kept, ask(SQUARE, pieces, PLAIN_FRAME, 2))
        told = odd_sides(SQUARE, PLAIN_FRAME, 2)
        told.clear()
        self.assertEqual([0], odd_sides(SQUARE, PLAIN_FRAME, 2))


if __name__ == "__main__":
    unittest.main()
