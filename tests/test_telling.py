"""Promises 31 and 32: what is told of a number of like pieces, and trapezes."""

import copy
import math
import random
import unittest
from fractions import Fraction

import reckon
from cuttings import stretched
from likeshards.errors import NoField, NoNumber
from likeshards.fans import fan_cut, shares_of
from likeshards.fields import is_field
from likeshards.hubs import hub_cut, hub_of
from likeshards.papers import bars_many, look_paper
from likeshards.pieces import fault_of
from likeshards.telling import told_many, trapeze_of
from samples import FIELDS, FIVE, FIVE_ON_SIDE, HEXAGON, HUB_FIELDS, INSIDE, ODD_THINGS, ON_SIDE, PENTAGON, SIX
from samples import SQUARE, TRIANGLE, UNLIKE_FANS, corners, frac, spot

MOST = 10 ** 9
ALL_FIELDS = list(FIELDS + HUB_FIELDS) + [
    UNLIKE_FANS, corners((0, 0), (1, 0), ("1/2", 1), (0, 1)), corners((0, 0), (1, 0), (1, 8), (0, 6)),
    stretched(HEXAGON), stretched(TRIANGLE), corners((0, 0), (3, 0), (5, 4), (2, 6), (0, 5)),
]
SOME = list(range(1, 41)) + [48, 60, 97, 101, 720, 10 ** 6, 2 ** 29, 3 ** 18, MOST - 1, MOST]
NO_NUMBERS = tuple(thing for thing in ODD_THINGS if type(thing) is not int or thing != 1) + (
    0, MOST + 1, -MOST, 10 ** 10, "5", [5], (5,), (5, 1),
)


def fan_number(field, c):
    """The least number of like pieces of the fan, by Fractions."""
    points = reckon.points_of(field)
    begun = points[c:] + points[:c]
    parts = [reckon.turn(begun[0], a, b) / reckon.twice(points) for a, b in zip(begun[1:], begun[2:])]
    return math.lcm(*[part.denominator for part in parts])


def right_word(field, many, best):
    """The word and what is promised of the rest."""
    for c in range(len(field)):
        if many % fan_number(field, c) == 0:
            return ("fan", c)
    hub = hub_of(field, many) if many <= 24 else None
    if hub is not None:
        return ("hub", *hub)
    if any(bar > reckon.power(Fraction(many), prime) for prime, bar in best.items()):
        return ("never",)
    return ("open",)


class TestToldMany(unittest.TestCase):
    def test_written_out(self):
        self.assertEqual(("fan", 0), told_many(SQUARE, 2))
        self.assertEqual(("fan", 0), told_many(SQUARE, MOST))
        self.assertEqual(("hub", spot("9/5", 1), [0, 1, 3, 1]), told_many(ON_SIDE, 5))
        self.assertEqual(("hub", spot("30/7", "22/7"), [2, 2, 2, 1]), told_many(INSIDE, 7))
        self.assertEqual(("hub", spot("9/4", "15/4"), [2, 3, 4, 1, 2]), told_many(FIVE, 12))
        self.assertEqual(("hub", spot("14/5", "17/5"), [1, 0, 2, 5, 2]), told_many(FIVE_ON_SIDE, 10))
        self.assertEqual(("hub", spot(0, 0), [2, 3, 2, 3, 3, 3]), told_many(SIX, 16))
        self.assertEqual(("open",), told_many(HEXAGON, 4))
        self.assertEqual("never", told_many(SQUARE, 3)[0])
        self.assertEqual("never", told_many(SQUARE, MOST - 1)[0])
        self.assertEqual(("fan", 0), told_many(PENTAGON, 4))

    def test_of_all_the_first_that_holds(self):
        seen = {}
        for field in ALL_FIELDS:
            best = reckon.best_bars(field)
            for many in SOME:
                told = told_many(field, many)
                self.assertIsInstance(told, tuple)
                right = right_word(field, many, best)
                seen[right[0]] = seen.get(right[0], 0) + 1
                if right == ("never",):
                    self.assertEqual(("never", 2), (told[0], len(told)))
                    self.assertIsNone(look_paper(field, told[1]))
                    self.assertIs(True, bars_many(field, told[1], many))
                    self.assertGreater(reckon.right_bar(field, told[1]), reckon.power(Fraction(many), told[1][3]))
                else:
                    self.assertEqual(right, told)
        self.assertEqual({"fan", "hub", "never", "open"}, set(seen))
        self.assertGreater(min(seen.values()), 8)

    def test_the_first_corner(self):
        self.assertEqual([9, 6, 9, 3, 6], [fan_number(UNLIKE_FANS, c) for c in range(5)])
        for many, c in ((3, 3), (6, 1), (9, 0), (12, 1), (15, 3), (18, 0), (21, 3)):
            self.assertEqual(("fan", c), told_many(UNLIKE_FANS, many))

    def test_a_fan_goes_ahead_of_a_hub(self):
        self.assertIsNotNone(hub_of(SQUARE, 4))
        self.assertEqual(("fan", 0), told_many(SQUARE, 4))

    def test_a_hub_is_for_twenty_four_at_most(self):
        self.assertEqual("hub", told_many(ON_SIDE, 5)[0])
        self.assertEqual(("open",), told_many(ON_SIDE, 25))

    def test_what_is_told_is_cut_so(self):
        seen = set()
        for field in ALL_FIELDS:
            for many in range(1, 31):
                told = told_many(field, many)
                seen.add(told[0])
                if told[0] == "fan":
                    pieces = fan_cut(field, told[1], many)
                elif told[0] == "hub":
                    pieces = hub_cut(field, told[1], told[2])
                else:
                    continue
                self.assertEqual(many, len(pieces))
                self.assertEqual(1, len({reckon.area(piece) for piece in pieces}))
                if many < 9:
                    self.assertIsNone(fault_of(field, pieces))
        self.assertEqual({"fan", "hub", "never", "open"}, seen)

    def test_no_number(self):
        for thing in NO_NUMBERS:
            for field in (SQUARE, TRIANGLE, HEXAGON):
                with self.subTest(thing):
                    self.assertRaises(NoNumber, told_many, field, thing)

    def test_no_field_first(self):
        for thing in ODD_THINGS + (SQUARE[::-1], list(SQUARE), SQUARE[:2]):
            for many in (1, 0, None, True, MOST + 1):
                self.assertRaises(NoField, told_many, thing, many)

    def test_told_anew(self):
        told = told_many(INSIDE, 7)
        kept = copy.deepcopy(told)
        told[2].clear()
        self.assertEqual(kept, told_many(INSIDE, 7))


def small_sum(t):
    """Whether the sum of top and bottom can be divided by no prime from 101 on."""
    rest = t.numerator + t.denominator
    for prime in reckon.PRIMES:
        while rest % prime == 0:
            rest //= prime
    return rest == 1


class TestTrapeze(unittest.TestCase):
    def test_written_out(self):
        self.assertEqual(SQUARE, trapeze_of((1, 1)))
        self.assertEqual(corners((0, 0), (1, 0), ("3/7", 1), (0, 1)), trapeze_of((3, 7)))
        self.assertEqual(corners((0, 0), (1, 0), (12, 1), (0, 1)), trapeze_of((12, 1)))

    def test_fields(self):
        for t in ("1/2", "5", "999999999999999999999999999999", "1/999999999999999999999999999999"):
            self.assertTrue(is_field(trapeze_of(frac(t))))

    def test_told_one_or_the_other(self):
        chance = random.Random(32)
        several = [Fraction(1), Fraction(1, 2), Fraction(2), Fraction(3, 5), Fraction(15), Fraction(17, 40)]
        several += [Fraction(chance.randint(1, 99), chance.randint(1, 99)) for k in range(30)]
        several += [Fraction(2 ** 20 - 1), Fraction(1, 97 * 89 - 1), Fraction(5 ** 9 - 7, 7)]
        several = [t for t in several if small_sum(t)]
        self.assertGreater(len(several), 25)
        for t in several:
            field = trapeze_of(frac(t))
            number = t.numerator + t.denominator
            for many in [*range(1, 30), number, 2 * number, 7 * number, number + 1, number * 3 - 1, MOST]:
                if many > MOST:
                    continue
                told = told_many(field, many)
                if many % number == 0:
                    self.assertEqual(("fan", 0), told)
                    self.assertEqual(number, sum(shares_of(field, 0)))
                else:
                    self.assertEqual("never", told[0])
                    self.assertIs(True, bars_many(field, told[1], many))

    def test_a_sum_with_a_greater_prime(self):
        field = trapeze_of((100, 1))
        self.assertEqual(("fan", 0), told_many(field, 202))
        self.assertEqual(("open",), told_many(field, 100))

    def test_square(self):
        for many in range(1, 60):
            self.assertEqual("never" if many % 2 else "fan", told_many(trapeze_of((1, 1)), many)[0])

    def test_three_corners(self):
        for field in (TRIANGLE, stretched(TRIANGLE), corners((0, 0), ("1/3", "-5/7"), (9, 9))):
            for many in SOME:
                self.assertEqual(("fan", 0), told_many(field, many))

    def test_no_number(self):
        for part in ((0, 1), (-1, 1), (-1, 2), (-(10 ** 30 - 1), 7)):
            self.assertRaises(NoNumber, trapeze_of, part)
        for thing in ODD_THINGS + ((2, 4), (1, -2), (True, 1)):
            self.assertRaises(NoNumber, trapeze_of, thing)


if __name__ == "__main__":
    unittest.main()
