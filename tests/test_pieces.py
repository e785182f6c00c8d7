"""Promises 10 and 11: pieces, whether they lap, and what keeps them from being a cutting."""

import copy
import itertools
import random
import unittest
from fractions import Fraction

import reckon
from cuttings import COMB, CUTTINGS, GROWN, HALVES, WRITTEN, all_stretched, fan, grown, stretched
from likeshards.errors import NoCutting, NoField
from likeshards.fracs import is_frac
from likeshards.pieces import do_lap, fault_of, is_piece, look_cutting
from likeshards.spots import on_way
from samples import FIELDS, HEXAGON, ODD_THINGS, PENTAGON, SQUARE, TRIANGLE, corners, frac, spot

FAR = 10 ** 30 - 1
NO_PIECES = {
    "turned to the right": TRIANGLE[::-1],
    "three on a line": corners((0, 0), (1, 1), (2, 2)),
    "three on a line, the last amid": corners((0, 0), (2, 2), (1, 1)),
    "first two alike": corners((0, 0), (0, 0), (1, 1)),
    "last two alike": corners((0, 0), (1, 1), (1, 1)),
    "first and last alike": corners((0, 0), (1, 1), (0, 0)),
    "all alike": corners((1, 1), (1, 1), (1, 1)),
    "two corners": TRIANGLE[:2],
    "one corner": TRIANGLE[:1],
    "four corners": SQUARE,
    "three corners and the first": TRIANGLE + TRIANGLE[:1],
    "a list": list(TRIANGLE),
    "lists alone": [[list(part) for part in place] for place in TRIANGLE],
    "a corner is a list": TRIANGLE[:2] + (list(TRIANGLE[2]),),
    "the first corner is a list": (list(TRIANGLE[0]),) + TRIANGLE[1:],
    "a corner is None": TRIANGLE[:2] + (None,),
    "a corner of whole numbers": TRIANGLE[:2] + ((0, 2),),
    "a part not in lowest terms": TRIANGLE[:2] + (((0, 1), (4, 2)),),
    "a part with a bottom below nought": TRIANGLE[:2] + (((0, 1), (-2, -1)),),
    "a part with a bottom of nought": TRIANGLE[:2] + (((0, 1), (2, 0)),),
    "a truth": TRIANGLE[:2] + (((0, 1), (2, True)),),
    "a text for a corner": TRIANGLE[:2] + ("0,2",),
    "a spot of three parts": TRIANGLE[:2] + (((0, 1), (2, 1), (1, 1)),),
    "a spot": spot(0, 1),
    "a fraction": (1, 2),
    "a piece in a tuple": (TRIANGLE,),
    "three pieces": (TRIANGLE, TRIANGLE, TRIANGLE),
}


def near_pieces():
    """All pieces with corners on three rows of three spots, begun anyhow."""
    grid = [spot(x, y) for x in range(3) for y in range(3)]
    return [three for three in itertools.permutations(grid, 3) if reckon.turn(*reckon.points_of(three)) > 0]


def right_fault(field, pieces):
    """The fault of a list of pieces, by the reckoning in Fractions."""
    if not 1 <= len(pieces) <= 30:
        return ("many",)
    border = reckon.points_of(field)
    for k, piece in enumerate(pieces):
        if not all(reckon.lies_in(point, border) for point in reckon.points_of(piece)):
            return ("beyond", k)
    for k in range(len(pieces)):
        for j in range(k):
            if reckon.lap(pieces[j], pieces[k]):
                return ("lap", j, k)
    less = reckon.twice(border) - sum(reckon.twice(reckon.points_of(piece)) for piece in pieces)
    return ("left", frac(less / 2)) if less else None


class TestIsPiece(unittest.TestCase):
    def test_pieces(self):
        for piece in near_pieces():
            self.assertIs(True, is_piece(piece))
        for field, pieces in CUTTINGS:
            for piece in pieces:
                self.assertIs(True, is_piece(piece))

    def test_begun_at_each_corner(self):
        for k in range(3):
            self.assertIs(True, is_piece(TRIANGLE[k:] + TRIANGLE[:k]))

    def test_each_three_near(self):
        grid = [spot(x, y) for x in range(3) for y in range(3)]
        for three in itertools.product(grid, repeat=3):
            self.assertIs(reckon.turn(*reckon.points_of(three)) > 0, is_piece(three))

    def test_no_pieces(self):
        for why, thing in NO_PIECES.items():
            with self.subTest(why):
                self.assertIs(False, is_piece(thing))

    def test_of_anything(self):
        for thing in ODD_THINGS + FIELDS[1:]:
            self.assertIs(False, is_piece(thing))

    def test_thin(self):
        thin = Fraction(1, FAR)
        self.assertIs(True, is_piece(corners((0, 0), (FAR, 0), (1, thin))))
        self.assertIs(False, is_piece(corners((0, 0), (FAR, 0), (1, -thin))))
        self.assertIs(False, is_piece(corners((0, 0), (FAR, FAR - 1), (FAR - 1, FAR - 2))))
        self.assertIs(True, is_piece(corners((0, 0), (FAR - 1, FAR - 2), (FAR, FAR - 1))))
        self.assertIs(False, is_piece(corners((0, 0), (FAR, FAR - 1), (-FAR, 1 - FAR))))


class TestLap(unittest.TestCase):
    def both_ways(self, one, other):
        told = do_lap(one, other)
        self.assertIs(told, do_lap(other, one))
        return told

    def check(self, right, one, other):
        """Both ways about, begun at each corner, small and with great numbers."""
        for k, j in itertools.product(range(3), repeat=2):
            a, b = one[k:] + one[:k], other[j:] + other[:j]
            self.assertIs(right, self.both_ways(a, b))
        self.assertIs(right, self.both_ways(stretched(one), stretched(other)))

    def test_a_corner_in_common(self):
        one = corners((0, 0), (2, 0), (0, 2))
        self.check(False, one, corners((2, 0), (4, 0), (2, 2)))
        self.check(False, one, corners((0, 0), (-1, 0), (0, -1)))

    def test_a_corner_on_a_side(self):
        one = corners((0, 0), (2, 0), (0, 2))
        self.check(False, one, corners((1, 0), (0, -1), (2, -1)))
        self.check(False, one, corners((1, 1), (3, 1), (1, 3)))

    def test_an_edge_in_common(self):
        one = corners((0, 0), (2, 0), (0, 2))
        self.check(False, one, corners((2, 0), (2, 2), (0, 2)))
        self.check(False, one, corners((0, 0), (1, -1), (2, 0)))

    def test_an_edge_in_common_on_one_side(self):
        one = corners((0, 0), (2, 0), (0, 2))
        self.check(True, one, corners((0, 0), (2, 0), (2, 2)))
        self.check(True, one, corners((0, 0), (2, 0), ("1/2", "1/2")))

    def test_a_part_of_an_edge_in_common(self):
        one = corners((0, 0), (4, 0), (0, 4))
        self.check(False, one, corners((1, 0), (2, -1), (3, 0)))
        self.check(False, one, corners((2, 0), (5, -1), (6, 0)))
        self.check(True, one, corners((1, 0), (3, 0), (2, 1)))
        self.check(True, one, corners((2, 0), (6, 0), (2, 1)))

    def test_nothing_in_common(self):
        one = corners((0, 0), (2, 0), (0, 2))
        self.check(False, one, corners((5, 5), (6, 5), (5, 6)))
        self.check(False, one, corners((-3, 1), (-1, 0), (-1, 2)))
        self.check(False, one, corners((3, -1), (3, 3), ("21/10", "1/10")))
        # Their spans over x and over y meet, but no spot is in both.
        self.check(False, one, corners((2, 2), (2, "1/100"), (3, 3))[::-1])

    def test_one_in_the_other(self):
        one = corners((0, 0), (9, 0), (0, 9))
        self.check(True, one, corners((1, 1), (3, 1), (1, 3)))
        self.check(True, one, corners((0, 0), (3, 1), (1, 3)))
        self.check(True, one, corners((3, 0), (4, 5), (0, 3)))

    def test_alike(self):
        for piece in (TRIANGLE, corners((1, 1), (3, 1), (1, 3))):
            self.check(True, piece, piece)

    def test_crossing_with_no_corner_in_the_other(self):
        up = corners((0, 0), (6, 0), (3, 6))
        down = corners((0, 4), (3, -2), (6, 4))
        self.check(True, up, down)
        long, high = corners((-9, 0), (9, -1), (9, 1)), corners((0, -9), (1, 9), (-1, 9))
        self.check(True, long, high)

    def test_hardly(self):
        thin = Fraction(1, 10 ** 28)
        one = corners((0, 0), (1, 0), (0, 1))
        self.assertIs(False, self.both_ways(one, corners((0, 0), (0, -1), (1, 0))))
        self.assertIs(True, self.both_ways(one, corners((0, thin), (0, -1), (1, thin))))
        self.assertIs(False, self.both_ways(one, corners((0, -thin), (0, -1), (1, -thin))))
        self.assertIs(False, self.both_ways(one, corners((1, 1), (0, 1 + thin), (1, thin))))
        self.assertIs(True, self.both_ways(one, corners((1, 1), (0, 1 - thin), (1, -thin))))

    def test_all_near(self):
        pieces = [piece for piece in near_pieces() if piece[0] == min(piece)]
        self.assertEqual(76, len(pieces))
        for one in pieces:
            for other in pieces:
                self.assertIs(reckon.lap(one, other), do_lap(one, other))

    def test_some_of_thirty_figures(self):
        chance = random.Random(10)
        pieces = []
        while len(pieces) < 40:
            three = tuple(
                spot(Fraction(chance.randint(-FAR, FAR), FAR - chance.randint(0, 99)), chance.randint(-FAR, FAR))
                for k in range(3)
            )
            pieces += [three] if is_piece(three) else []
        told = [do_lap(one, other) for one in pieces for other in pieces]
        self.assertEqual([reckon.lap(one, other) for one in pieces for other in pieces], told)
        self.assertEqual({True, False}, set(told))


class TestFault(unittest.TestCase):
    def test_cuttings(self):
        for field, pieces in CUTTINGS:
            self.assertIsNone(fault_of(field, pieces))
            self.assertIsNone(look_cutting(field, pieces))

    def test_in_any_turn_of_the_pieces(self):
        chance = random.Random(11)
        for field, pieces in WRITTEN:
            turns = list(itertools.permutations(pieces)) if len(pieces) < 5 else [
                chance.sample(pieces, len(pieces)) for k in range(30)
            ]
            for turn in turns:
                self.assertIsNone(fault_of(field, list(turn)))

    def test_in_any_turn_of_the_corners(self):
        chance = random.Random(12)
        for field, pieces in WRITTEN + GROWN:
            turned = []
            for piece in pieces:
                k = chance.randrange(3)
                turned.append(piece[k:] + piece[:k])
            k = chance.randrange(len(field))
            self.assertIsNone(fault_of(field[k:] + field[:k], turned))

    def test_no_list(self):
        for thing in ODD_THINGS + (tuple(HALVES), tuple(tuple(HALVES)), HALVES[0], "piece", {0: HALVES[0]}, SQUARE):
            if not isinstance(thing, list):
                self.assertEqual(("many",), fault_of(SQUARE, thing))

    def test_how_many(self):
        self.assertEqual(("many",), fault_of(SQUARE, []))
        self.assertEqual(("left", (1, 2)), fault_of(SQUARE, HALVES[:1]))
        thirty = grown(HEXAGON, 30, 11)
        self.assertEqual(30, len(thirty))
        self.assertIsNone(fault_of(HEXAGON, thirty))
        one_more = grown(HEXAGON, 31, 11)
        self.assertEqual(31, len(one_more))
        self.assertEqual(("many",), fault_of(HEXAGON, one_more))
        self.assertEqual(("many",), fault_of(HEXAGON, thirty + [None]))
        self.assertEqual(("many",), fault_of(HEXAGON, [None] * 31))
        self.assertEqual(("piece", 0), fault_of(HEXAGON, [None] * 30))

    def test_pieces_that_are_none(self):
        for why, thing in NO_PIECES.items():
            with self.subTest(why):
                self.assertEqual(("piece", 0), fault_of(SQUARE, [thing]))
                self.assertEqual(("piece", 2), fault_of(SQUARE, HALVES + [thing]))
                self.assertEqual(("piece", 1), fault_of(SQUARE, [HALVES[0], thing, HALVES[1], thing]))
        for thing in ODD_THINGS:
            self.assertEqual(("piece", 1), fault_of(SQUARE, [HALVES[0], thing]))

    def test_beyond(self):
        out = corners((0, 0), (2, 0), (0, 1))
        self.assertEqual(("beyond", 0), fault_of(SQUARE, [out]))
        self.assertEqual(("beyond", 1), fault_of(SQUARE, [HALVES[0], out, out]))
        self.assertEqual(("beyond", 2), fault_of(SQUARE, HALVES + [corners((5, 5), (6, 5), (5, 6))]))
        thin = Fraction(1, 10 ** 28)
        for k in range(3):
            piece = corners((0, 0), (1, -thin), (1, 1))
            self.assertEqual(("beyond", 0), fault_of(SQUARE, [piece[k:] + piece[:k], HALVES[1]]))
        # On the line of a side, but behind its end.
        self.assertEqual(("beyond", 0), fault_of(SQUARE, [corners((0, 0), (1 + thin, 0), (1, 1))]))

    def test_all_corners_at_the_border(self):
        piece = corners(("1/2", 0), (1, "1/2"), (0, 1))
        self.assertEqual(("left", (5, 8)), fault_of(SQUARE, [piece]))

    def test_laps(self):
        one, other = HALVES
        self.assertEqual(("lap", 0, 1), fault_of(SQUARE, [one, one]))
        self.assertEqual(("lap", 0, 2), fault_of(SQUARE, [one, other, one]))
        self.assertEqual(("lap", 1, 2), fault_of(SQUARE, [one, other, other]))
        third = corners((0, 0), (1, 0), (0, 1))
        self.assertEqual(("lap", 0, 2), fault_of(SQUARE, [one, other, third]))
        self.assertEqual(("lap", 0, 1), fault_of(SQUARE, [third, one, other]))
        # The first k goes ahead of the first j: 1 and 2 lap, so do 0 and 3.
        a, b = corners((0, 0), ("1/4", 0), (0, "1/4")), corners((1, 1), ("3/4", 1), (1, "3/4"))
        self.assertEqual(("lap", 1, 2), fault_of(SQUARE, [a, b, b, a]))
        self.assertEqual(("lap", 0, 3), fault_of(SQUARE, [a, b, corners((0, 1), (0, "3/4"), ("1/4", 1)), a, b]))

    def test_left(self):
        self.assertEqual(("left", (1, 4)), fault_of(SQUARE, [HALVES[0], corners((0, 0), ("1/2", "1/2"), (0, 1))]))
        for field, pieces in WRITTEN + GROWN:
            for k, piece in enumerate(pieces):
                if len(pieces) > 1:
                    area = frac(reckon.twice(reckon.points_of(piece)) / 2)
                    told = fault_of(field, pieces[:k] + pieces[k + 1:])
                    self.assertEqual(("left", area), told)
                    self.assertIs(True, is_frac(told[1]))

    def test_hardly_left(self):
        thin = Fraction(1, 10 ** 29)
        pieces = [corners((0, 0), (1, 0), (1, 1)), corners((0, 0), (1, 1), (thin, 1))]
        self.assertEqual(("left", (1, 2 * 10 ** 29)), fault_of(SQUARE, pieces))

    def test_which_goes_first(self):
        out, line = corners((0, 0), (2, 0), (0, 1)), corners((0, 0), (1, 1), (2, 2))
        one = HALVES[0]
        self.assertEqual(("piece", 3), fault_of(SQUARE, [out, one, one, line]))
        self.assertEqual(("beyond", 2), fault_of(SQUARE, [one, one, out]))
        self.assertEqual(("lap", 0, 1), fault_of(SQUARE, [corners((0, 0), ("1/2", 0), ("1/2", "1/2"))] * 2))
        self.assertEqual(("many",), fault_of(SQUARE, [out, one, one, line] * 8))
        # Pieces that lap may come to the field's area.
        self.assertEqual(("lap", 0, 1), fault_of(SQUARE, [one, corners((0, 0), (1, 0), (0, 1))]))
        # Pieces of the field's area that go beyond it.
        self.assertEqual(("beyond", 0), fault_of(SQUARE, [corners((0, 0), (2, 0), (0, 1))]))

    def test_by_the_other_reckoning(self):
        chance = random.Random(13)
        seen = set()
        for k in range(150):
            field = chance.choice(FIELDS)
            pieces = grown(field, chance.randint(4, 8), k, 4)
            for j in range(chance.randint(0, 2)):
                pieces = chance.choice((self.without_one, self.with_one_moved, self.with_one_twice))(pieces, chance)
            if chance.random() < 0.3:
                field, pieces = stretched(field), all_stretched(pieces)
            right = right_fault(field, pieces)
            seen.add(right and right[0])
            self.assertEqual(right, fault_of(field, pieces))
        self.assertEqual({None, "beyond", "lap", "left"}, seen)

    def without_one(self, pieces, chance):
        k = chance.randrange(len(pieces))
        return pieces[:k] + pieces[k + 1:]

    def with_one_moved(self, pieces, chance):
        k, j = chance.randrange(len(pieces)), chance.randrange(3)
        row = list(pieces[k])
        row[j] = on_way(row[j], row[j - 1], frac(chance.choice(("1/3", "-1/3", "-1", "1/2"))))
        return pieces[:k] + [tuple(row)] + pieces[k + 1:]

    def with_one_twice(self, pieces, chance):
        return pieces + [chance.choice(pieces)]

    def test_all_near_pairs(self):
        field = corners((0, 0), (2, 0), (2, 2), (0, 2))
        pieces = [piece for piece in near_pieces() if piece[0] == min(piece)]
        for one, other in itertools.product(pieces[::2], pieces):
            self.assertEqual(right_fault(field, [one, other]), fault_of(field, [one, other]))


class TestRefused(unittest.TestCase):
    def test_no_field(self):
        for thing in ODD_THINGS + (SQUARE[::-1], list(SQUARE), SQUARE[:2], PENTAGON[:4] + PENTAGON[3:]):
            for pieces in (HALVES, [], None, [None]):
                self.assertRaises(NoField, fault_of, thing, pieces)
                self.assertRaises(NoField, look_cutting, thing, pieces)

    def test_no_cutting_tells_the_fault(self):
        one, other = HALVES
        for pieces in (
            None, (), tuple(HALVES), [], HALVES * 16, [None], [one, SQUARE], [one, TRIANGLE], [one, one],
            [one], [other, one, other], 5, True, "x",
        ):
            with self.assertRaises(NoCutting) as caught:
                look_cutting(SQUARE, pieces)
            self.assertIsInstance(caught.exception.fault, tuple)
            self.assertEqual(fault_of(SQUARE, pieces), caught.exception.fault)

    def test_each_fault(self):
        one, other = HALVES
        for fault, pieces in (
            (("many",), []), (("piece", 1), [one, None]), (("beyond", 1), [one, TRIANGLE]), (("lap", 0, 1), [one, one]),
            (("left", (1, 2)), [one]),
        ):
            with self.assertRaises(NoCutting) as caught:
                look_cutting(SQUARE, pieces)
            self.assertEqual(fault, caught.exception.fault)

    def test_what_is_handed_in_stays(self):
        one, other = HALVES
        for pieces in (
            [one, other], [other, one], [one, one], [one, None], [one, TRIANGLE], [], [one], COMB[:],
            [[list(place) for place in one], list(other)], [one] * 31,
        ):
            kept = copy.deepcopy(pieces)
            first = fault_of(SQUARE, pieces)
            self.assertEqual(kept, pieces)
            self.assertEqual(repr(kept), repr(pieces))
            self.assertEqual(first, fault_of(SQUARE, pieces))

    def test_what_is_done_behind_a_call(self):
        pieces = fan(HEXAGON)
        self.assertIsNone(fault_of(HEXAGON, pieces))
        gone = pieces.pop()
        self.assertEqual("left", fault_of(HEXAGON, pieces)[0])
        pieces.append(gone)
        self.assertIsNone(fault_of(HEXAGON, pieces))


if __name__ == "__main__":
    unittest.main()
