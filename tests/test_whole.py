"""Promises 2 and 3 over the whole program: nothing is changed, lists are told anew, and cuttings stay cuttings."""

import copy
import importlib
import itertools
import random
import unittest

import reckon
from cuttings import CROSS, HALVES, PLAIN_FRAME, QUARTERS, THIRD_AMID, WRITTEN, fan, grown
from likeshards.bends import bent_field, bent_pieces
from likeshards.colours import colour_by
from likeshards.doors import border_doors, doors_of, full_of, odd_sides
from likeshards.errors import ShardError
from likeshards.fans import fan_cut, fan_of
from likeshards.finer import cut_at, is_finer, laid_over
from likeshards.hubs import hub_cut, hub_of
from likeshards.meets import corners_of, counts_of
from likeshards.moves import freedom_of, moved
from likeshards.papers import bars_many, bars_row
from likeshards.pieces import fault_of
from likeshards.rows import row_cut, told_row
from likeshards.telling import told_many
from likeshards.texts import read_cutting, show_cutting
from likeshards.walks import all_walks, walk_stands
from samples import FIELDS, HEXAGON, HUB_FIELDS, INSIDE, SQUARE, TRIANGLE, UNLIKE_FANS, corners, frac, spot
from test_interface import FUNCTIONS

MIDDLE = spot("1/2", "1/2")
BENDS = [
    tuple(frac(part) for part in parts)
    for parts in ((0, 1, 1, 0, 0, 0), ("1/2", 3, "-2/7", "5/3", "-1/9", 4), (-1, "1/2", 0, 3, "2/3", "-5/8"))
]
ROW = [frac(area) for area in ("1/3", "1/4", "1/4", "1/6")]
THIRDS = [frac("1/3")] * 3
FRAME = (SQUARE[0], SQUARE[1], SQUARE[3])
PAPER = (0, 1, 3, 2)
# A call of each function that is handed a list or tells one.
CALLS = [
    ("fracs", "sum_of", [[(1, 2), (1, 3)]]),
    ("pieces", "fault_of", [SQUARE, CROSS]), ("pieces", "fault_of", [SQUARE, CROSS[:2]]),
    ("pieces", "fault_of", [SQUARE, [[1], [[2]]]]), ("pieces", "look_cutting", [SQUARE, CROSS]),
    ("left", "left_over", [SQUARE, CROSS[:2]]), ("left", "left_over", [SQUARE, []]),
    ("left", "parted_by", [corners((0, 0), (1, 0), (1, 1)), spot(0, 0), spot(3, 1)]),
    ("meets", "corners_of", [SQUARE, THIRD_AMID]), ("meets", "bits_of", [SQUARE, THIRD_AMID, 0]),
    ("meets", "meets_of", [SQUARE, THIRD_AMID]), ("meets", "counts_of", [SQUARE, THIRD_AMID]),
    ("doors", "doors_of", [SQUARE, HALVES, FRAME, 2, 0]), ("doors", "full_of", [SQUARE, HALVES, FRAME, 2]),
    ("doors", "border_doors", [SQUARE, HALVES, FRAME, 2]), ("doors", "odd_sides", [SQUARE, FRAME, 2]),
    ("walks", "walk_from", [SQUARE, HALVES, FRAME, 2, (0, 0)]), ("walks", "all_walks", [SQUARE, HALVES, FRAME, 2]),
    ("walks", "walk_stands", [SQUARE, HALVES, FRAME, 2, [(0, 0, 2), (1, 0, None)]]),
    ("papers", "odd_of", [SQUARE, PAPER]), ("papers", "bars_row", [SQUARE, PAPER, THIRDS]),
    ("papers", "must_of", [SQUARE]), ("fans", "fan_of", [HEXAGON, 2]), ("fans", "shares_of", [HEXAGON, 2]),
    ("fans", "fan_cut", [SQUARE, 0, 6]), ("hubs", "hub_of", [INSIDE, 7]),
    ("hubs", "hub_cut", [SQUARE, MIDDLE, [1, 1, 1, 1]]), ("telling", "told_many", [INSIDE, 7]),
    ("telling", "told_many", [SQUARE, 7]), ("rows", "told_row", [SQUARE, ROW]), ("rows", "told_row", [SQUARE, THIRDS]),
    ("rows", "row_cut", [SQUARE, ROW, 0, [[0, 3], [1, 2]]]), ("moves", "freedom_of", [SQUARE, THIRD_AMID, MIDDLE]),
    ("moves", "moved", [SQUARE, CROSS, MIDDLE, spot("1/3", "1/3")]), ("moves", "moved", [SQUARE, CROSS, MIDDLE, MIDDLE]),
    ("moves", "with_moved", [CROSS, MIDDLE, spot(5, 5)]), ("moves", "with_moved", [CROSS, spot(9, 9), spot(5, 5)]),
    ("moves", "signed_sum", [CROSS]), ("finer", "cut_at", [SQUARE, HALVES, 0, spot("2/3", "1/3")]),
    ("finer", "holders_of", [SQUARE, CROSS, HALVES]), ("finer", "is_finer", [SQUARE, CROSS, HALVES]),
    ("finer", "laid_over", [SQUARE, HALVES, fan(SQUARE, 1)]), ("bends", "bent_pieces", [BENDS[0], CROSS]),
    ("texts", "show_cutting", [SQUARE, CROSS]), ("texts", "read_cutting", [show_cutting(SQUARE, CROSS)]),
]
# And such that are refused.
REFUSED = [
    ("pieces", "look_cutting", [SQUARE, CROSS[:3]]), ("left", "left_over", [SQUARE, [None, [1]]]),
    ("papers", "bars_row", [SQUARE, PAPER, [(1, 2), [3]]]), ("hubs", "hub_cut", [SQUARE, MIDDLE, [1, 1, 1, 2]]),
    ("rows", "told_row", [SQUARE, [(1, 2), [(1, 2)]]]), ("rows", "row_cut", [SQUARE, ROW, 0, [[3, 0], [1, 2]]]),
    ("moves", "moved", [SQUARE, CROSS, MIDDLE, spot(5, 5)]), ("moves", "freedom_of", [SQUARE, CROSS, spot(5, 5)]),
    ("finer", "cut_at", [SQUARE, CROSS, 0, MIDDLE]), ("finer", "laid_over", [SQUARE, CROSS, CROSS[:1]]),
    ("bends", "bent_pieces", [(1, 2), CROSS]), ("bends", "look_bend", [[[1], 2]]), ("texts", "read_cutting", [["field"]]),
    ("walks", "walk_from", [SQUARE, HALVES, FRAME, 2, [0, 0]]),
]


def spoil(thing):
    """Changes every list within a thing."""
    if isinstance(thing, (list, tuple)):
        for part in thing:
            spoil(part)
    if isinstance(thing, list):
        thing.reverse()
        thing.append("spoiled")


def function(module, name):
    return getattr(importlib.import_module("likeshards." + module), name)


class TestNothingIsChanged(unittest.TestCase):
    def test_what_is_handed_in_and_told(self):
        for module, name, things in CALLS:
            with self.subTest(name):
                ask = function(module, name)
                handed = copy.deepcopy(things)
                told = ask(*handed)
                self.assertEqual(repr(things), repr(handed))
                kept = copy.deepcopy(told)
                # What is done to what was handed in doesn't reach what was told, nor the other way.
                spoil(handed)
                self.assertEqual(repr(kept), repr(told))
                spoil(told)
                self.assertEqual(repr(kept), repr(ask(*copy.deepcopy(things))))

    def test_each_telling_is_its_own(self):
        for module, name, things in CALLS:
            with self.subTest(name):
                ask = function(module, name)
                handed = copy.deepcopy(things)
                one = ask(*handed)
                other = ask(*handed)
                kept = copy.deepcopy(other)
                spoil(one)
                self.assertEqual(repr(kept), repr(other))
                self.assertEqual(repr(things), repr(handed))

    def test_what_is_refused(self):
        for module, name, things in REFUSED:
            with self.subTest(name):
                handed = copy.deepcopy(things)
                for again in range(2):
                    self.assertRaises(ShardError, function(module, name), *handed)
                    self.assertEqual(repr(things), repr(handed))

    def test_each_function_that_is_handed_a_list_is_called(self):
        called = {(module, name) for module, name, things in CALLS}
        words = ("pieces", "others", "row", "groups", "counts", "parts", "walk")
        for module, written in FUNCTIONS.items():
            for text in written:
                name, brace, rest = text.partition("(")
                if any(word in rest.rstrip(")").split(", ") for word in words):
                    self.assertIn((module, name), called)


def derived(field, pieces, chance):
    """Cuttings that come of one, each with its field."""
    told = [(field, pieces)]
    k = chance.randrange(len(pieces))
    points = reckon.points_of(pieces[k])
    inside = spot(*[sum(point[axis] for point in points) / 3 for axis in range(2)])
    if len(pieces) <= 28:
        told.append((field, cut_at(field, pieces, k, inside)))
    for corner in corners_of(field, pieces):
        if freedom_of(field, pieces, corner) == ("free",):
            x, y = reckon.points_of([corner])[0]
            goal = spot(x + reckon.Fraction(1, 1000), y)
            try:
                told.append((field, moved(field, pieces, corner, goal)))
            except ShardError:
                pass
    if len(pieces) <= 8:
        try:
            told.append((field, laid_over(field, pieces, fan_of(field, chance.randrange(len(field))))))
        except ShardError:
            pass
    for bend in BENDS:
        told.append((bent_field(bend, field), bent_pieces(bend, pieces)))
    told.append(read_cutting(show_cutting(field, pieces)))
    return told


def told_ones():
    """Cuttings that the program tells for numbers and rows."""
    told = []
    for field in FIELDS + HUB_FIELDS + (UNLIKE_FANS,):
        for many in range(1, 25):
            hub = hub_of(field, many)
            if hub is not None and many < 13:
                told.append((field, hub_cut(field, *hub)))
            answer = told_many(field, many)
            if answer[0] == "fan" and many < 13:
                told.append((field, fan_cut(field, answer[1], many)))
        areas = [frac(reckon.area(piece)) for piece in fan(field, 1)]
        answer = told_row(field, areas)
        told.append((field, row_cut(field, areas, answer[1], answer[2])))
    return told


CHANCE = random.Random(3)
SOURCES = WRITTEN + [(field, grown(field, 7, seed)) for seed, field in enumerate(FIELDS)]
ALL = [one for field, pieces in SOURCES for one in derived(field, pieces, CHANCE)] + told_ones()


class TestThePromise(unittest.TestCase):
    def test_all_are_cuttings(self):
        self.assertGreater(len(ALL), 150)
        for field, pieces in ALL:
            self.assertIsNone(fault_of(field, pieces))
            self.assertEqual(reckon.area(field), sum(reckon.area(piece) for piece in pieces))
            corner, bit, piece = counts_of(field, pieces)
            self.assertEqual(1, corner - bit + piece)

    def test_no_two_lap(self):
        for field, pieces in ALL[::5]:
            for one, other in itertools.combinations(pieces, 2):
                self.assertFalse(reckon.lap(one, other))

    def test_no_paper_bars_them(self):
        for field, pieces in ALL:
            areas = [frac(reckon.area(piece)) for piece in pieces]
            alike = len(set(areas)) == 1
            for three in list(reckon.threes(field))[::3]:
                for prime in (2, 3, 5):
                    paper = (*three, prime)
                    if len(areas) <= 30:
                        self.assertIs(False, bars_row(field, paper, areas))
                    if alike:
                        self.assertIs(False, bars_many(field, paper, len(pieces)))

    def test_never_is_not_told_of_them(self):
        for field, pieces in ALL:
            areas = [frac(reckon.area(piece)) for piece in pieces]
            if len(set(areas)) == 1:
                self.assertNotEqual("never", told_many(field, len(pieces))[0])
            if len(areas) <= 8:
                self.assertIn(told_row(field, areas)[0], ("fan", "open"))

    def test_odd_together_or_even_together(self):
        odd = 0
        for field, pieces in ALL[::2]:
            for frame in (field[:3], PLAIN_FRAME):
                for prime in (2, 3):
                    full = full_of(field, pieces, frame, prime)
                    border = border_doors(field, pieces, frame, prime)
                    parities = {len(full) % 2, len(border) % 2, len(odd_sides(field, frame, prime)) % 2}
                    self.assertEqual(1, len(parities))
                    for k in range(len(pieces)):
                        self.assertIs(k in full, len(doors_of(field, pieces, frame, prime, k)) % 2 == 1)
                    if parities == {1}:
                        odd += 1
                        walks = all_walks(field, pieces, frame, prime)
                        self.assertTrue(any(walk_stands(field, pieces, frame, prime, walk) for walk in walks))
        self.assertGreater(odd, 50)

    def test_laid_over_is_finer_than_both(self):
        for field, one, other in ((SQUARE, CROSS, HALVES), (TRIANGLE, QUARTERS, fan_cut(TRIANGLE, 1, 3)),
                                  (HEXAGON, fan(HEXAGON), fan(HEXAGON, 2))):
            told = laid_over(field, one, other)
            self.assertIsNone(fault_of(field, told))
            self.assertTrue(is_finer(field, told, one) and is_finer(field, told, other))

    def test_a_bent_cutting_has_the_same_walks(self):
        # The size of this one is above nought, so that pieces and bits keep their turn.
        bend = BENDS[1]
        for field, pieces in WRITTEN:
            other = bent_field(bend, field)
            for prime in (2, 3):
                self.assertEqual(
                    all_walks(field, pieces, field[:3], prime),
                    all_walks(other, bent_pieces(bend, pieces), other[:3], prime),
                )
                for corner, place in zip(field, other):
                    self.assertEqual(colour_by(field[:3], prime, corner), colour_by(other[:3], prime, place))


if __name__ == "__main__":
    unittest.main()
