"""Promises 29 and 30: hubs, their counts, and fields cut by them."""

import copy
import unittest
from fractions import Fraction

import reckon
from cuttings import stretched
from likeshards.errors import NoField, NoNumber, NoWay
from likeshards.fields import place_in
from likeshards.hubs import hub_cut, hub_of
from likeshards.papers import bars_many, bars_row
from likeshards.pieces import fault_of
from samples import FIELDS, FIVE, FIVE_ON_SIDE, HEXAGON, HUB_FIELDS, INSIDE, LATE, ODD_THINGS, ON_SIDE, PENTAGON, SIX
from samples import SKEW, SQUARE, TRIANGLE, frac, spot, values_of

ALL_FIELDS = list(FIELDS + HUB_FIELDS) + [stretched(INSIDE), stretched(PENTAGON), stretched(TRIANGLE)]
NUMBERS = range(1, 25)
NO_NUMBERS = tuple(thing for thing in ODD_THINGS if type(thing) is not int or thing not in NUMBERS) + (
    0, 25, 26, -1, -24, 48, True, False, "1", [1], (1,), (1, 1), 10 ** 30 - 1,
)


def parts_at(field, point, many):
    """The parts at each side, by Fractions."""
    points = reckon.points_of(field)
    return [many * reckon.turn(point, a, b) / reckon.twice(points) for a, b in reckon.sides(points)]


def cross(one, other):
    return one[0] * other[1] - one[1] * other[0]


def point_by(field, many, last, first):
    """The spot by its parts at the last and the first side, as the crossing of two lines."""
    points = reckon.points_of(field)
    whole = reckon.twice(points)
    corner, before, behind = points[0], points[-1], points[1]
    back = (before[0] - corner[0], before[1] - corner[1])
    ahead = (behind[0] - corner[0], behind[1] - corner[1])
    size = cross(ahead, back)
    u, v = last * whole / many / size, first * whole / many / size
    return (corner[0] + u * ahead[0] + v * back[0], corner[1] + u * ahead[1] + v * back[1])


def all_hubs(field, many):
    """By their counts all hubs for many, sought from other sides than the program's."""
    told = {}
    for last in range(many + 1):
        for first in range(many + 1 - last):
            point = point_by(field, many, last, first)
            parts = parts_at(field, point, many)
            assert (parts[-1], parts[0]) == (last, first)
            if all(part >= 0 and part.denominator == 1 for part in parts):
                told[tuple(int(part) for part in parts)] = point
    return told


class TestHubOf(unittest.TestCase):
    def test_written_out(self):
        self.assertEqual((spot(1, 0), [0, 0, 1, 1]), hub_of(SQUARE, 2))
        self.assertEqual((TRIANGLE[1], [0, 0, 7]), hub_of(TRIANGLE, 7))
        self.assertEqual((spot("9/5", 1), [0, 1, 3, 1]), hub_of(ON_SIDE, 5))
        self.assertEqual((spot("30/7", "22/7"), [2, 2, 2, 1]), hub_of(INSIDE, 7))
        self.assertEqual((spot("9/4", "15/4"), [2, 3, 4, 1, 2]), hub_of(FIVE, 12))
        self.assertEqual((spot("14/5", "17/5"), [1, 0, 2, 5, 2]), hub_of(FIVE_ON_SIDE, 10))
        self.assertEqual((spot(0, 0), [2, 3, 2, 3, 3, 3]), hub_of(SIX, 16))
        self.assertEqual((LATE[0], [0, 5, 1, 0]), hub_of(LATE, 6))

    def test_none(self):
        for many in (1, 3, 5, 23):
            self.assertIsNone(hub_of(SQUARE, many))
        for many in NUMBERS:
            self.assertIsNone(hub_of(SKEW, many))

    def test_of_all_numbers_the_first(self):
        self.assertEqual({3, 4, 5, 6}, {len(field) for field in ALL_FIELDS})
        found = missed = 0
        for field in ALL_FIELDS:
            for many in NUMBERS:
                right = all_hubs(field, many)
                told = hub_of(field, many)
                if not right:
                    missed += 1
                    self.assertIsNone(told)
                    continue
                found += 1
                place, counts = told
                self.assertIsInstance(told, tuple)
                self.assertIsInstance(counts, list)
                self.assertEqual(min(right), tuple(counts))
                self.assertEqual(right[min(right)], values_of(place))
        self.assertGreater(found, 80)
        self.assertGreater(missed, 80)

    def test_what_is_told_is_a_hub(self):
        for field in ALL_FIELDS:
            for many in NUMBERS:
                told = hub_of(field, many)
                if told is not None:
                    place, counts = told
                    self.assertEqual(many, sum(counts))
                    self.assertTrue(all(type(count) is int and count >= 0 for count in counts))
                    self.assertEqual(counts, parts_at(field, values_of(place), many))
                    self.assertNotEqual(("out",), place_in(field, place))

    def test_each_place_is_seen(self):
        seen = set()
        for field in ALL_FIELDS:
            for many in NUMBERS:
                told = hub_of(field, many)
                if told is not None:
                    seen.add((place_in(field, told[0])[0], told[1].count(0)))
        self.assertEqual({("corner", 2), ("side", 1), ("inside", 0)}, seen)

    def test_no_number(self):
        for thing in NO_NUMBERS:
            for field in (SQUARE, TRIANGLE):
                with self.subTest(thing):
                    self.assertRaises(NoNumber, hub_of, field, thing)

    def test_no_field_first(self):
        for thing in ODD_THINGS + (SQUARE[::-1], list(SQUARE), SQUARE[:2]):
            for many in (1, 0, None, True, "1"):
                self.assertRaises(NoField, hub_of, thing, many)

    def test_told_anew(self):
        told = hub_of(INSIDE, 7)
        kept = copy.deepcopy(told)
        told[1].clear()
        self.assertEqual(kept, hub_of(INSIDE, 7))


def right_cut(field, place, counts):
    """The pieces of a hub, by Fractions."""
    pieces = []
    for (a, b), count in zip(reckon.sides(reckon.points_of(field)), counts):
        row = [spot(a[0] + Fraction(k, count) * (b[0] - a[0]), a[1] + Fraction(k, count) * (b[1] - a[1]))
               for k in range(count + 1) if count]
        pieces += [(one, other, place) for one, other in zip(row, row[1:])]
    return pieces


class TestHubCut(unittest.TestCase):
    def test_written_out(self):
        a, b, c, d = SQUARE
        self.assertEqual([(c, d, b), (d, a, b)], hub_cut(SQUARE, b, [0, 0, 1, 1]))
        middle = spot("1/2", "1/2")
        self.assertEqual([(a, b, middle), (b, c, middle), (c, d, middle), (d, a, middle)],
                         hub_cut(SQUARE, middle, [1, 1, 1, 1]))
        low = spot("1/2", 0)
        right = spot(1, "1/2")
        self.assertEqual([(b, c, low), (c, spot("1/2", 1), low), (spot("1/2", 1), d, low), (d, a, low)],
                         hub_cut(SQUARE, low, [0, 1, 2, 1]))
        self.assertEqual([(a, b, right), (c, d, right), (d, spot(0, "1/2"), right), (spot(0, "1/2"), a, right)],
                         hub_cut(SQUARE, right, [1, 0, 1, 2]))

    def test_one_piece(self):
        a, b, c = TRIANGLE
        self.assertEqual([(c, a, b)], hub_cut(TRIANGLE, b, [0, 0, 1]))
        self.assertEqual([(a, b, c)], hub_cut(TRIANGLE, c, [1, 0, 0]))

    def test_told_hubs_and_others(self):
        tried = 0
        for field in ALL_FIELDS:
            for many in (1, 2, 4, 5, 7, 12, 16, 24):
                for counts, point in list(all_hubs(field, many).items())[:9]:
                    tried += 1
                    place = spot(*point)
                    told = hub_cut(field, place, list(counts))
                    self.assertIsInstance(told, list)
                    self.assertEqual(right_cut(field, place, counts), told)
                    self.assertEqual(many, len(told))
                    self.assertIsNone(fault_of(field, told))
                    self.assertEqual(1, len({reckon.area(piece) for piece in told}))
        self.assertGreater(tried, 100)

    def test_by_what_hub_of_tells(self):
        for field in ALL_FIELDS:
            for many in NUMBERS:
                told = hub_of(field, many)
                if told is not None:
                    self.assertEqual(many, len(hub_cut(field, *told)))

    def test_no_paper_bars_them(self):
        for field in HUB_FIELDS:
            for many in NUMBERS:
                told = hub_of(field, many)
                if told is not None:
                    row = [frac(reckon.area(piece)) for piece in hub_cut(field, *told)]
                    for three in reckon.threes(field):
                        for prime in (2, 3, 5):
                            self.assertIs(False, bars_many(field, (*three, prime), many))
                            self.assertIs(False, bars_row(field, (*three, prime), row))

    def wrong(self, field, place, counts):
        with self.subTest(place=place, counts=counts):
            self.assertRaises(NoWay, hub_cut, field, place, counts)

    def test_other_counts(self):
        for field, many in ((INSIDE, 7), (ON_SIDE, 5), (FIVE, 12), (SIX, 16), (SQUARE, 2)):
            place, counts = hub_of(field, many)
            self.wrong(field, place, counts + [0])
            self.wrong(field, place, counts + [1])
            self.wrong(field, place, counts[:-1])
            self.wrong(field, place, counts[1:])
            self.wrong(field, place, [])
            self.wrong(field, place, counts[1:] + counts[:1])
            for k in range(len(counts)):
                self.wrong(field, place, counts[:k] + [counts[k] + 1] + counts[k + 1:])
                for j in range(len(counts)):
                    if counts[k] > 0 and j != k:
                        moved = list(counts)
                        moved[k] -= 1
                        moved[j] += 1
                        self.wrong(field, place, moved)

    def test_twice_the_counts(self):
        place, counts = hub_of(INSIDE, 7)
        self.assertEqual(14, len(hub_cut(INSIDE, place, [2 * count for count in counts])))
        self.assertEqual(21, len(hub_cut(INSIDE, place, [3 * count for count in counts])))
        self.wrong(INSIDE, place, [4 * count for count in counts])

    def test_as_many_as_a_hub_may_have(self):
        self.assertEqual(24, len(hub_cut(SQUARE, SQUARE[1], [0, 0, 12, 12])))
        self.wrong(SQUARE, SQUARE[1], [0, 0, 13, 13])
        self.wrong(SQUARE, SQUARE[1], [0, 0, 0, 0])

    def test_a_spot_beside(self):
        for field, many in ((INSIDE, 7), (ON_SIDE, 5), (FIVE, 12), (SIX, 16), (SQUARE, 2)):
            place, counts = hub_of(field, many)
            x, y = values_of(place)
            for beside in (spot(x + Fraction(1, 10 ** 9), y), spot(x, y - Fraction(1, 10 ** 9)), spot(x + 9, y)):
                self.wrong(field, beside, counts)

    def test_a_spot_out_of_the_field(self):
        # Its parts are whole, but one of them is below nought.
        point = (Fraction(1, 2), Fraction(-1, 2))
        counts = [int(part) for part in parts_at(SQUARE, point, 4)]
        self.assertEqual([-1, 1, 3, 1], counts)
        self.wrong(SQUARE, spot(*point), counts)

    def test_truths_and_other_things(self):
        middle = spot("1/2", "1/2")
        for counts in ([True, 1, 1, 1], [1, 1, 1, None], [1, 1, 1, "1"], (1, 1, 1, 1), None, 4, "1111", [[1], 1, 1, 1]):
            self.wrong(SQUARE, middle, counts)
        for place in (None, 1, (), ((1, 2), (2, 4)), [(1, 2), (1, 2)]):
            self.wrong(SQUARE, place, [1, 1, 1, 1])

    def test_no_field_first(self):
        for thing in ODD_THINGS + (SQUARE[::-1], list(SQUARE), SQUARE[:2]):
            for place, counts in ((SQUARE[1], [0, 0, 1, 1]), (None, None), (SQUARE[0], [1, 2])):
                self.assertRaises(NoField, hub_cut, thing, place, counts)

    def test_what_is_handed_in_stays(self):
        counts = [1, 1, 1, 1]
        middle = spot("1/2", "1/2")
        told = hub_cut(SQUARE, middle, counts)
        kept = list(told)
        self.assertEqual([1, 1, 1, 1], counts)
        counts[0] = 9
        told.clear()
        self.assertEqual(kept, hub_cut(SQUARE, middle, [1, 1, 1, 1]))

    def test_six_corners_from_the_middle(self):
        middle = spot("3/2", 1)
        parts = parts_at(HEXAGON, values_of(middle), 8)
        self.assertEqual([frac(1), frac("3/2")], [frac(part) for part in parts[:2]])
        self.wrong(HEXAGON, middle, [1, 1, 2, 1, 1, 2])
        self.assertEqual(16, len(hub_cut(HEXAGON, middle, [int(2 * part) for part in parts])))


if __name__ == "__main__":
    unittest.main()
