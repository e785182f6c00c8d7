"""Promises 22 and 23: walks through doors, and what of anything stands as one."""

import copy
import itertools
import random
import unittest

import reckon
from cuttings import (
    CROSS, CUTTINGS, GROWN, HALVES, PLAIN_FRAME, THIRD_AMID, THREE_DOORS, THREE_DOORS_FIELD, TRIED_PRIMES, WEAVE,
    WEAVE_FIELD, WRITTEN, frames_for, grown,
)
from likeshards.doors import border_doors, full_of
from likeshards.errors import NoCutting, NoDoor, NoField, NoFrame, NoPrime
from likeshards.walks import all_walks, walk_from, walk_stands
from samples import HEXAGON, ODD_THINGS, PENTAGON, SQUARE, TRIANGLE, corners

ON_A_LINE = corners((0, 0), (1, 1), (2, 2))
HALVED = (SQUARE, HALVES, PLAIN_FRAME, 2)
WOVEN = (WEAVE_FIELD, WEAVE, PLAIN_FRAME, 2)
THREE = (THREE_DOORS_FIELD, THREE_DOORS, PLAIN_FRAME, 2)


def seen_by(cuttings):
    """Cuttings by several frames and primes."""
    for field, pieces in cuttings:
        for k, frame in enumerate(frames_for(field, pieces)):
            for prime in TRIED_PRIMES[k % 2:4:2]:
                yield field, pieces, frame, prime


class TestWalks(unittest.TestCase):
    def test_to_a_full_piece(self):
        self.assertEqual([(0, 0, 2), (1, 0, None)], walk_from(*HALVED, (0, 0)))
        self.assertEqual([[(0, 0, 2), (1, 0, None)]], all_walks(*HALVED))

    def test_full_at_once(self):
        for prime in TRIED_PRIMES:
            self.assertEqual([(0, 0, None)], walk_from(TRIANGLE, [TRIANGLE], TRIANGLE, prime, (0, 0)))

    def test_a_corner_amid(self):
        self.assertEqual([(0, 0, 3), (1, 0, None)], walk_from(SQUARE, THIRD_AMID, PLAIN_FRAME, 2, (0, 0)))

    def test_to_the_border_through_many_doors(self):
        there = [(1, 0, 2), (0, 0, 1), (2, 2, 1), (3, 0, 2), (0, 2, 3), (4, 2, 1)]
        back = [(4, 1, 2), (0, 3, 2), (3, 2, 0), (2, 1, 2), (0, 1, 0), (1, 2, 0)]
        self.assertEqual(there, walk_from(*WOVEN, (1, 0)))
        self.assertEqual(back, walk_from(*WOVEN, (4, 1)))
        self.assertEqual([there, back], all_walks(*WOVEN))

    def test_a_full_piece_of_three_doors(self):
        self.assertEqual([[(1, 0, 2), (0, 0, None)]], all_walks(*THREE))

    def test_no_walks(self):
        # All corners have one colour by a frame far off in powers of 2.
        frame = corners((0, 0), (1, 0), (0, 1))
        field = corners((2, 2), (4, 2), (4, 4))
        self.assertEqual([], all_walks(field, [field], frame, 2))

    def test_by_the_other_reckoning(self):
        ends = set()
        for told in seen_by(CUTTINGS):
            sight = reckon.Sight(*told)
            walks = all_walks(*told)
            self.assertIsInstance(walks, list)
            self.assertEqual([sight.walk(door) for door in sight.border], walks)
            ends |= {(len(sight.doors[walk[-1][0]]), walk[-1][2] is None) for walk in walks}
            if len(sight.border) % 2 == 1:
                self.assertTrue(any(walk[-1][2] is None for walk in walks))
        self.assertLessEqual({(1, True), (3, True), (2, False), (4, False)}, ends)

    def test_each_from_its_door(self):
        for told in seen_by(WRITTEN + GROWN[:5]):
            walks = all_walks(*told)
            doors = border_doors(*told)
            self.assertEqual(len(doors), len(walks))
            for door, walk in zip(doors, walks):
                self.assertEqual(door, walk[0][:2])
                self.assertEqual(walk, walk_from(*told, door))
                self.assertTrue(all(type(step) is tuple and len(step) == 3 for step in walk))

    def test_ends(self):
        kinds = set()
        for told in seen_by(WRITTEN + GROWN):
            full, doors = full_of(*told), border_doors(*told)
            for walk in all_walks(*told):
                k, b, out = walk[-1]
                kinds.add(out is None)
                self.assertEqual(out is None, k in full)
                self.assertTrue(all(step[2] is not None and step[0] not in full for step in walk[:-1]))
                if out is not None:
                    self.assertIn((k, out), doors)
                    self.assertNotEqual(walk[0][:2], (k, out))
        self.assertEqual({True, False}, kinds)

    def test_some_lead_through_thirty_pieces(self):
        for seed in range(3):
            pieces = grown(PENTAGON, 30, seed, 4)
            for frame, prime in itertools.product(frames_for(PENTAGON, pieces)[:3], (2, 3)):
                sight = reckon.Sight(PENTAGON, pieces, frame, prime)
                right = [sight.walk(door) for door in sight.border]
                self.assertEqual(right, all_walks(PENTAGON, pieces, frame, prime))


class TestNoDoor(unittest.TestCase):
    def test_other_bits(self):
        for k, b in itertools.product(range(-3, 5), repeat=2):
            if (k, b) != (0, 0):
                self.assertRaises(NoDoor, walk_from, *HALVED, (k, b))
        for k, b in itertools.product(range(-1, 6), repeat=2):
            if (k, b) not in ((1, 0), (4, 1)):
                self.assertRaises(NoDoor, walk_from, *WOVEN, (k, b))

    def test_truths(self):
        for door in ((False, 0), (0, False), (False, False), (True, 0), (0, True)):
            self.assertRaises(NoDoor, walk_from, *HALVED, door)
        for door in ((True, 0), (1, False), (True, False), (4, True)):
            self.assertRaises(NoDoor, walk_from, *WOVEN, door)

    def test_of_anything(self):
        others = ([0, 0], (0,), (0, 0, 0), ((0, 0), 0), (0, (0,)), ("0", "0"), "00", (None, 0), (0, None), [(0, 0)],
                  ((0, 0),), ([0], [0]))
        for thing in ODD_THINGS + others:
            self.assertRaises(NoDoor, walk_from, *HALVED, thing)


class TestStands(unittest.TestCase):
    def test_to_a_full_piece(self):
        self.assertIs(True, walk_stands(*HALVED, [(0, 0, 2), (1, 0, None)]))
        self.assertIs(True, walk_stands(TRIANGLE, [TRIANGLE], TRIANGLE, 7, [(0, 0, None)]))

    def test_spoiled(self):
        for why, walk in {
            "no list": ((0, 0, 2), (1, 0, None)),
            "the empty list": [],
            "a step of two": [(0, 0), (1, 0, None)],
            "a step of four": [(0, 0, 2, 0), (1, 0, None)],
            "a last step of two": [(0, 0, 2), (1, 0)],
            "a last step of four": [(0, 0, 2), (1, 0, None, None)],
            "a step is a list": [[0, 0, 2], (1, 0, None)],
            "the last step is a list": [(0, 0, 2), [1, 0, None]],
            "a truth for a piece": [(False, 0, 2), (1, 0, None)],
            "a truth for a last piece": [(0, 0, 2), (True, 0, None)],
            "a truth for an in": [(0, False, 2), (1, 0, None)],
            "a truth for a last in": [(0, 0, 2), (1, False, None)],
            "another first door": [(0, 2, 0), (1, 0, None)],
            "a first door that isn't on the border": [(1, 0, None)],
            "a first bit that is no door": [(0, 1, 2), (1, 0, None)],
            "in and out the same": [(0, 0, 0), (1, 0, None)],
            "out is no door": [(0, 0, 1), (1, 0, None)],
            "out is no bit": [(0, 0, 3), (1, 0, None)],
            "out from behind": [(0, 0, -1), (1, 0, None)],
            "in from behind": [(0, -3, 2), (1, 0, None)],
            "piece from behind": [(-2, 0, 2), (1, 0, None)],
            "last piece from behind": [(0, 0, 2), (-1, 0, None)],
            "an out None ahead of the end": [(0, 0, None), (1, 0, None)],
            "an end that isn't full": [(0, 0, None)],
            "an end with an out": [(0, 0, 2), (1, 0, 0)],
            "an end with another out": [(0, 0, 2), (1, 0, 1)],
            "it ends too early": [(0, 0, 2)],
            "a next piece that isn't behind": [(0, 0, 2), (0, 0, None)],
            "a next piece that there isn't": [(0, 0, 2), (2, 0, None)],
            "a next in that isn't this bit": [(0, 0, 2), (1, 1, None)],
            "a step twice": [(0, 0, 2), (0, 0, 2), (1, 0, None)],
            "a last step twice": [(0, 0, 2), (1, 0, None), (1, 0, None)],
            "None for a step": [(0, 0, 2), None],
            "None ahead": [None, (0, 0, 2), (1, 0, None)],
            "a text for an out": [(0, 0, "2"), (1, 0, None)],
            "a list for an out": [(0, 0, [2]), (1, 0, None)],
            "a list for an in": [(0, [0], 2), (1, 0, None)],
            "a list for a piece": [([0], 0, 2), (1, 0, None)],
            "None for a piece": [(None, 0, 2), (1, 0, None)],
            "a truth for an end": [(0, 0, 2), (1, 0, False)],
            "a walk in a list": [[(0, 0, 2), (1, 0, None)]],
            "turned about": [(1, 0, None), (0, 0, 2)],
            "great numbers": [(0, 0, 10 ** 30 - 1), (1, 0, None)],
            "a great piece": [(10 ** 30 - 1, 0, 2), (1, 0, None)],
        }.items():
            with self.subTest(why):
                kept = repr(walk)
                self.assertIs(False, walk_stands(*HALVED, walk))
                self.assertEqual(kept, repr(walk))

    def test_a_truth_for_an_out(self):
        told = (SQUARE, [(b, c, a) for a, b, c in HALVES], PLAIN_FRAME, 2)
        walk = [(0, 2, 1), (1, 2, None)]
        self.assertEqual([walk], all_walks(*told))
        self.assertIs(True, walk_stands(*told, walk))
        self.assertIs(False, walk_stands(*told, [(0, 2, True), (1, 2, None)]))

    def test_of_anything(self):
        for thing in ODD_THINGS:
            self.assertIs(False, walk_stands(*HALVED, thing))
            self.assertIs(False, walk_stands(*HALVED, [thing]))
            self.assertIs(False, walk_stands(*HALVED, [(0, 0, 2), thing]))
            self.assertIs(False, walk_stands(*HALVED, [thing, (1, 0, None)]))
            self.assertIs(False, walk_stands(*HALVED, [(0, 0, thing), (1, 0, None)]))
            self.assertIs(False, walk_stands(*HALVED, [(thing, thing, thing)]))

    def test_where_nothing_is_full(self):
        for walk in all_walks(*WOVEN):
            self.assertIs(False, walk_stands(*WOVEN, walk))
            self.assertIs(False, walk_stands(*WOVEN, walk[:-1] + [walk[-1][:2] + (None,)]))

    def test_what_is_told_stands_where_it_ends_in_a_full_piece(self):
        for told in seen_by(CUTTINGS):
            for walk in all_walks(*told):
                self.assertIs(walk[-1][2] is None, walk_stands(*told, walk))

    def test_through_a_full_piece(self):
        self.assertIs(True, walk_stands(*THREE, [(1, 0, 2), (0, 0, None)]))
        through = [(1, 0, 2), (0, 0, 1), (2, 2, 1), (3, 0, 2), (0, 2, None)]
        self.assertIs(True, walk_stands(*THREE, through))
        self.assertIs(True, walk_stands(*THREE, through[:1] + [(0, 0, 2), (3, 2, 0), (2, 1, 2), (0, 1, None)]))
        self.assertIs(True, walk_stands(*THREE, through[:4] + [(0, 2, 1), (2, 2, 1), (3, 0, 2), (0, 2, None)]))
        self.assertIs(False, walk_stands(*THREE, through[:-1]))
        self.assertIs(False, walk_stands(*THREE, [(1, 0, 2), (0, 0, 0), (1, 2, 0)]))

    def test_back_by_the_same_door(self):
        self.assertIs(False, walk_stands(*THREE, [(1, 0, 2), (0, 0, 1), (2, 2, 2), (0, 1, None)]))
        self.assertIs(False, walk_stands(*THREE, [(1, 0, 2), (0, 0, 0), (1, 2, 2), (0, 0, None)]))

    def test_pieces_counted_from_behind(self):
        self.assertIs(False, walk_stands(TRIANGLE, [TRIANGLE], TRIANGLE, 2, [(-1, 0, None)]))
        told = (SQUARE, HALVES[::-1], PLAIN_FRAME, 2)
        self.assertIs(True, walk_stands(*told, [(1, 0, 2), (0, 0, None)]))
        self.assertIs(False, walk_stands(*told, [(-1, 0, 2), (0, 0, None)]))

    def test_partners_are_not_asked(self):
        seen = set()
        for told in seen_by(WRITTEN + GROWN[:10]):
            sight = reckon.Sight(*told)
            walks = all_walks(*told)
            for way in itertools.islice(sight.ways(6), 12):
                self.assertTrue(sight.stands(way))
                self.assertIs(True, walk_stands(*told, way))
                seen.add((way in walks, any(step[0] in sight.full for step in way[:-1])))
        # Some are no walks that are told, and some lead through a full piece.
        self.assertLessEqual({(True, False), (False, False), (False, True)}, seen)

    def test_each_near_walk(self):
        for pieces, prime in ((HALVES, 2), (THIRD_AMID, 2), (CROSS, 3)):
            sight = reckon.Sight(SQUARE, pieces, PLAIN_FRAME, prime)
            many = len(pieces)
            steps = list(itertools.product(range(-1, many + 1), range(-1, 4), (None, -1, 0, 1, 2, 3)))
            begun = [step for step in steps if step[:2] in sight.border]
            told = [[step] for step in steps] + [[one, other] for one in begun for other in steps]
            for walk in told:
                self.assertIs(sight.stands(walk), walk_stands(SQUARE, pieces, PLAIN_FRAME, prime, walk))

    def test_spoiled_by_chance(self):
        chance = random.Random(23)
        seen = set()
        for told in seen_by(GROWN[:10]):
            sight = reckon.Sight(*told)
            for way in itertools.islice(sight.ways(5), 3):
                at, place = chance.randrange(len(way)), chance.randrange(3)
                step = list(way[at])
                step[place] = chance.choice((None, 0, 1, 2, 3, 4))
                other = way[:at] + [tuple(step)] + way[at + 1:]
                for walk in (other, way[:-1], way[1:], way + way[-1:]):
                    right = bool(sight.stands(walk))
                    seen.add(right)
                    self.assertIs(right, walk_stands(*told, walk))
        self.assertEqual({True, False}, seen)


class TestRefused(unittest.TestCase):
    asked = (
        all_walks, lambda *told: walk_from(*told, (0, 0)), lambda *told: walk_from(*told, None),
        lambda *told: walk_stands(*told, [(0, 0, 2), (1, 0, None)]), lambda *told: walk_stands(*told, None),
    )

    def test_in_turn(self):
        for ask in self.asked:
            for frame, prime in itertools.product((PLAIN_FRAME, ON_A_LINE), (2, 4)):
                for pieces in (HALVES, HALVES[:1]):
                    self.assertRaises(NoField, ask, SQUARE[::-1], pieces, frame, prime)
                with self.assertRaises(NoCutting) as caught:
                    ask(SQUARE, HALVES[:1], frame, prime)
                self.assertEqual(("left", (1, 2)), caught.exception.fault)
            self.assertRaises(NoFrame, ask, SQUARE, HALVES, ON_A_LINE, 2)
            self.assertRaises(NoFrame, ask, SQUARE, HALVES, ON_A_LINE, 4)
            self.assertRaises(NoPrime, ask, SQUARE, HALVES, PLAIN_FRAME, 4)

    def test_door_last(self):
        self.assertRaises(NoPrime, walk_from, SQUARE, HALVES, PLAIN_FRAME, 4, (9, 9))
        self.assertRaises(NoDoor, walk_from, SQUARE, HALVES, PLAIN_FRAME, 2, (9, 9))

    def test_of_anything(self):
        for ask in self.asked:
            for thing in ODD_THINGS:
                self.assertRaises(NoField, ask, thing, HALVES, PLAIN_FRAME, 2)
                self.assertRaises(NoCutting, ask, SQUARE, thing, PLAIN_FRAME, 2)
                self.assertRaises(NoPrime, ask, SQUARE, HALVES, PLAIN_FRAME, thing)

    def test_nothing_is_kept_or_changed(self):
        pieces = list(WEAVE)
        for ask in (all_walks, lambda *told: walk_from(*told, (1, 0))):
            told = ask(WEAVE_FIELD, pieces, PLAIN_FRAME, 2)
            kept = copy.deepcopy(told)
            for row in told:
                if isinstance(row, list):
                    row.clear()
            told.append(None)
            self.assertEqual(WEAVE, pieces)
            self.assertEqual(kept, ask(WEAVE_FIELD, pieces, PLAIN_FRAME, 2))

    def test_a_walk_stays(self):
        walk = [(0, 0, 2), (1, 0, None)]
        self.assertIs(True, walk_stands(*HALVED, walk))
        self.assertEqual([(0, 0, 2), (1, 0, None)], walk)
        walk.pop()
        self.assertIs(False, walk_stands(*HALVED, walk))


if __name__ == "__main__":
    unittest.main()
