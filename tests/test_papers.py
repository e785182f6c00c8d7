"""Promises 24, 25 and 26: papers, what they bar, and what must be of a field."""

import copy
import math
import random
import unittest
from fractions import Fraction

import reckon
from cuttings import CUTTINGS, GREAT, GROWN, HALVES, WRITTEN, stretched
from likeshards.errors import NoAreas, NoField, NoNumber, NoPaper
from likeshards.fans import fan_cut, shares_of
from likeshards.papers import bar_of, bars_many, bars_row, look_paper, must_of, odd_of
from reckon import PRIMES, best_bars, ratio, right_bar, right_odd, threes
from samples import FIELDS, HEXAGON, ODD_THINGS, PENTAGON, SKEW, SQUARE, TRIANGLE, corners, frac

FAR = 10 ** 30 - 1


def trapeze(t):
    return corners((0, 0), (1, 0), (t, 1), (0, 1))


MORE_FIELDS = [trapeze(t) for t in ("1/2", "1/5", "7/8", 5, "9/16", "1/29")] + [
    corners((0, 0), (3, 0), (5, 4), (2, 6), (0, 5)), corners((0, 0), (6, 1), (9, 7), (4, 9), (1, 8), (-1, 4)),
    stretched(SKEW), corners((0, 0), (1, 0), ("3/2", "5/4"), ("1/4", "9/8")),
]
ALL_FIELDS = list(FIELDS) + MORE_FIELDS


NO_PAPERS = (
    (0, 1, 2), (0, 1, 2, 2, 2), (0, 1, 1, 2), (0, 0, 1, 2), (1, 0, 1, 2), (0, 0, 0, 2), (0, 1, 4, 2), (4, 1, 0, 2),
    (0, 4, 1, 2), (0, 1, -1, 2), (-1, 0, 1, 2), (0, 1, 2, 4), (0, 1, 2, 1), (0, 1, 2, 0), (0, 1, 2, 101), (0, 1, 2, -2),
    (0, 1, 2, True), (0, 1, 2, None), (0, 1, 2, "2"), (0, 1, 2, (2, 1)), (0, True, 2, 2), (False, 1, 2, 2),
    (2, 3, True, 2), (None, 1, 2, 2), ("0", 1, 2, 2), ((0, 1), 1, 2, 2), ([0], 1, 2, 2), [0, 1, 2, 2], (0, 1, 2, [2]),
    ((0, 1, 2), 2), (SQUARE[0], SQUARE[1], SQUARE[2], 2), (0, 1, FAR, 2), (0, 1, 2, FAR),
)
NO_NUMBERS = (0, -1, -FAR, True, False, None, "1", [1], (1,), (1, 1), "", [], ())
NO_ROWS = (
    [], [(1, 2)] * 31, ((1, 2),), (1, 2), [(0, 1)], [(-1, 2)], [(1, 2), (0, 1)], [(1, 2), (-1, 1)], [(2, 4)], [1],
    [(1, 2), None], [[1, 2]], [(True, 2)], [(1, True)], [(1, 0)], [(1, -2)], None, True, 1, "1/2", ["1/2"], [[(1, 2)]],
    {}, [(1, 2, 3)], [(1,)], [(1, 2), "x"],
)


class TestPapers(unittest.TestCase):
    asked = (
        look_paper, odd_of, bar_of, lambda field, paper: bars_many(field, paper, 1),
        lambda field, paper: bars_many(field, paper, None), lambda field, paper: bars_row(field, paper, [(1, 2)]),
        lambda field, paper: bars_row(field, paper, None),
    )

    def test_papers(self):
        for field in ALL_FIELDS:
            for three in threes(field):
                for prime in (2, 3, 97):
                    self.assertIsNone(look_paper(field, (*three, prime)))

    def test_no_papers(self):
        for ask in self.asked:
            for thing in NO_PAPERS + ODD_THINGS:
                with self.subTest(thing):
                    self.assertRaises(NoPaper, ask, SQUARE, thing)

    def test_numbers_of_this_field(self):
        for field in FIELDS:
            n = len(field)
            self.assertIsNone(look_paper(field, (n - 1, 0, 1, 2)))
            self.assertRaises(NoPaper, look_paper, field, (n, 0, 1, 2))
            self.assertRaises(NoPaper, look_paper, field, (0, n, 1, 2))
            self.assertRaises(NoPaper, look_paper, field, (0, 1, n, 2))

    def test_no_field_first(self):
        for ask in self.asked:
            for thing in ODD_THINGS + (SQUARE[::-1], list(SQUARE), SQUARE[:2]):
                self.assertRaises(NoField, ask, thing, (0, 1, 2, 2))
                self.assertRaises(NoField, ask, thing, None)


class TestOddAndBar(unittest.TestCase):
    def test_square(self):
        self.assertEqual([0], odd_of(SQUARE, (0, 1, 3, 2)))
        self.assertEqual(1, bar_of(SQUARE, (0, 1, 3, 2)))
        self.assertEqual([0], odd_of(SQUARE, (0, 1, 3, 3)))
        self.assertEqual(0, bar_of(SQUARE, (0, 1, 3, 3)))

    def test_triangle(self):
        for three in threes(TRIANGLE):
            for prime in PRIMES:
                self.assertEqual(1, len(odd_of(TRIANGLE, (*three, prime))))
                self.assertEqual(0, bar_of(TRIANGLE, (*three, prime)))

    def test_of_all(self):
        for field in ALL_FIELDS:
            for k, three in enumerate(threes(field)):
                for prime in PRIMES[:4] + PRIMES[4 + k % 7::7]:
                    paper = (*three, prime)
                    self.assertEqual(right_odd(field, paper), odd_of(field, paper))
                    self.assertEqual(right_bar(field, paper), bar_of(field, paper))

    def test_each_kind_is_seen(self):
        seen, below = set(), 0
        for field in ALL_FIELDS:
            for three in threes(field):
                for prime in (2, 3, 5):
                    paper = (*three, prime)
                    bar = bar_of(field, paper)
                    seen.add(bar)
                    below += bar == 0 and reckon.power(ratio(field, paper), prime) < 0
        self.assertLessEqual({None, 0, 1, 2}, seen)
        self.assertGreater(below, 0)

    def test_great_bars(self):
        field = trapeze(2 ** 40 - 1)
        self.assertEqual(40, bar_of(field, (0, 1, 3, 2)))
        self.assertEqual(3, bar_of(trapeze("26"), (0, 1, 3, 3)))


class TestBarsMany(unittest.TestCase):
    def test_square(self):
        for many in range(1, 60):
            self.assertIs(many % 2 == 1, bars_many(SQUARE, (0, 1, 3, 2), many))
            self.assertIs(False, bars_many(SQUARE, (0, 1, 3, 3), many))

    def test_great_bars(self):
        field = trapeze(15)
        for many in range(1, 100):
            self.assertIs(many % 16 != 0, bars_many(field, (0, 1, 3, 2), many))
        self.assertIs(False, bars_many(field, (0, 1, 3, 2), 2 ** 96))
        self.assertIs(True, bars_many(field, (0, 1, 3, 2), FAR))

    def test_none_bars_nothing(self):
        for field in ALL_FIELDS:
            for three in threes(field):
                for prime in (2, 3):
                    bar = right_bar(field, (*three, prime))
                    for many in (1, 2, 3, 4, 9, 12):
                        right = bar is not None and bar > reckon.power(Fraction(many), prime)
                        self.assertIs(right, bars_many(field, (*three, prime), many))

    def test_no_number(self):
        for thing in NO_NUMBERS + tuple(thing for thing in ODD_THINGS if thing not in (1, FAR)):
            self.assertRaises(NoNumber, bars_many, SQUARE, (0, 1, 3, 2), thing)
            # Refused as well where the paper has no bar, or one of 0.
            self.assertRaises(NoNumber, bars_many, SQUARE, (0, 1, 3, 3), thing)
            self.assertRaises(NoNumber, bars_many, HEXAGON, self.paper_without_bar(HEXAGON), thing)

    def paper_without_bar(self, field):
        return next((*three, prime) for three in threes(field) for prime in PRIMES
                    if right_bar(field, (*three, prime)) is None)

    def test_no_cutting_has_as_many(self):
        for field in ALL_FIELDS:
            for c in range(len(field)):
                number = sum(shares_of(field, c))
                for many in range(number, 31, number):
                    self.assertEqual(many, len(fan_cut(field, c, many)))
                    for three in threes(field):
                        for prime in (2, 3, 5):
                            self.assertIs(False, bars_many(field, (*three, prime), many))


class TestBarsRow(unittest.TestCase):
    def test_square(self):
        paper = (0, 1, 3, 2)
        for right, row in (
            (True, ["1"]), (False, ["1/2", "1/2"]), (True, ["1/3", "1/3", "1/3"]), (False, ["1/4"] * 4),
            (True, ["1/3", "2/3"]), (False, ["1/3", "2/3", "1/6"]), (True, ["4/3", "2/9", "8"]), (True, ["1"] * 30),
            (False, ["1"] * 29 + ["1/2"]), (False, ["1/2"] + ["1"] * 29),
        ):
            self.assertIs(right, bars_row(SQUARE, paper, [frac(area) for area in row]))

    def test_a_bar_of_nought(self):
        self.assertEqual(0, bar_of(TRIANGLE, (0, 1, 2, 3)))
        self.assertIs(True, bars_row(TRIANGLE, (0, 1, 2, 3), [(9, 1), (9, 2)]))
        self.assertIs(False, bars_row(TRIANGLE, (0, 1, 2, 3), [(9, 1), (3, 1)]))
        self.assertIs(False, bars_row(TRIANGLE, (0, 1, 2, 3), [(3, 1)]))

    def test_no_bar(self):
        for field in ALL_FIELDS:
            for three in threes(field):
                if right_bar(field, (*three, 2)) is None:
                    self.assertIs(False, bars_row(field, (*three, 2), [(2 ** 90, 1)]))

    def test_by_the_other_reckoning(self):
        chance = random.Random(25)
        seen = set()
        for field in ALL_FIELDS:
            for three in threes(field):
                paper = (*three, chance.choice((2, 3)))
                base = reckon.turn(*[reckon.points_of(field)[k] for k in three])
                row = [abs(base) * Fraction(paper[3] ** chance.randint(0, 2) * chance.randint(1, 9), 14)
                       for k in range(chance.randint(1, 2))]
                right = right_bar(field, paper) is not None and all(
                    reckon.power(2 * area / base, paper[3]) > 0 for area in row
                )
                seen.add(right)
                self.assertIs(right, bars_row(field, paper, [frac(area) for area in row]))
        self.assertEqual({True, False}, seen)

    def test_no_areas(self):
        for thing in NO_ROWS + ODD_THINGS:
            if not isinstance(thing, list) or thing != [(1, 2), (3, 4)]:
                with self.subTest(thing):
                    self.assertRaises(NoAreas, bars_row, SQUARE, (0, 1, 3, 2), thing)
                    self.assertRaises(NoAreas, bars_row, SQUARE, (0, 1, 3, 3), thing)
        self.assertIs(False, bars_row(SQUARE, (0, 1, 3, 2), [(1, 2), (3, 4)]))

    def test_no_cutting_has_these_areas(self):
        for field, pieces in WRITTEN + GROWN + GREAT[:5]:
            row = [frac(reckon.twice(reckon.points_of(piece)) / 2) for piece in pieces]
            for three in threes(field):
                for prime in (2, 3):
                    self.assertIs(False, bars_row(field, (*three, prime), row))

    def test_the_row_stays(self):
        row = [(1, 1), (1, 3)]
        self.assertIs(True, bars_row(SQUARE, (0, 1, 3, 2), row))
        self.assertEqual([(1, 1), (1, 3)], row)


class TestMust(unittest.TestCase):
    def check(self, field, number, papers):
        """What is told, held against all papers of the field."""
        best = best_bars(field)
        self.assertIsInstance(papers, list)
        self.assertEqual(sorted(best), [paper[3] for paper in papers])
        for paper in papers:
            self.assertIsNone(look_paper(field, paper))
            self.assertEqual(best[paper[3]], bar_of(field, paper))
        self.assertEqual(math.prod(prime ** bar for prime, bar in best.items()), number)
        return best

    def test_one(self):
        self.assertEqual((1, []), must_of(TRIANGLE))
        self.assertEqual((1, []), must_of(stretched(TRIANGLE)))

    def test_square(self):
        number, papers = must_of(SQUARE)
        self.assertEqual(2, number)
        self.assertEqual([2], [paper[3] for paper in papers])
        self.check(SQUARE, number, papers)

    def test_of_all(self):
        many = set()
        for field in ALL_FIELDS:
            told = must_of(field)
            self.assertIsInstance(told, tuple)
            many.add(len(self.check(field, *told)))
        self.assertLessEqual({0, 1, 2}, many)

    def test_trapezes(self):
        for top, bottom in ((1, 1), (1, 2), (3, 1), (1, 5), (2, 7), (15, 1), (7, 8), (11, 19), (31, 1), (17, 40)):
            number, papers = must_of(trapeze(Fraction(top, bottom)))
            self.assertEqual(top + bottom, number)
            self.check(trapeze(Fraction(top, bottom)), number, papers)

    def test_several_primes(self):
        number, papers = must_of(trapeze(2 * 3 * 5 * 7 * 97 - 1))
        self.assertEqual(2 * 3 * 5 * 7 * 97, number)
        self.assertEqual([2, 3, 5, 7, 97], [paper[3] for paper in papers])
        number, papers = must_of(trapeze(2 ** 30 * 3 ** 20 * 97 ** 3 - 1))
        self.assertEqual(2 ** 30 * 3 ** 20 * 97 ** 3, number)

    def test_primes_from_101_on_do_not_count(self):
        self.assertEqual((1, []), must_of(trapeze(100)))
        self.assertEqual(2, must_of(trapeze(201))[0])

    def test_some(self):
        chance = random.Random(26)
        for k in range(12):
            steps = sorted({Fraction(chance.randint(-30, 30), chance.randint(1, 6)) for j in range(6)})[:4 + k % 3]
            field = corners(*[(x, x * x) for x in steps])
            self.check(field, *must_of(field))

    def test_each_cutting_is_a_multiple(self):
        for field in ALL_FIELDS:
            number = must_of(field)[0]
            for c in range(len(field)):
                self.assertEqual(0, sum(shares_of(field, c)) % number)

    def test_wherever_it_begins(self):
        for field in ALL_FIELDS:
            for k in range(1, len(field)):
                self.assertEqual(must_of(field)[0], must_of(field[k:] + field[:k])[0])

    def test_no_field(self):
        for thing in ODD_THINGS + (SQUARE[::-1], list(SQUARE), SQUARE[:2], HALVES):
            self.assertRaises(NoField, must_of, thing)

    def test_told_anew(self):
        told = must_of(SQUARE)
        kept = copy.deepcopy(told)
        told[1].clear()
        self.assertEqual(kept, must_of(SQUARE))
        odd = odd_of(PENTAGON, (0, 1, 2, 2))
        kept = list(odd)
        odd.append(7)
        self.assertEqual(kept, odd_of(PENTAGON, (0, 1, 2, 2)))


class TestWhole(unittest.TestCase):
    def test_full_pieces_are_not_of_an_even_part(self):
        # Where a paper has a bar, some piece of each cutting has no higher power than the frame's area.
        for field, pieces in CUTTINGS[:20]:
            points = reckon.points_of(field)
            for three in threes(field):
                base = reckon.turn(*[points[k] for k in three])
                for prime in (2, 3):
                    if bar_of(field, (*three, prime)) is not None:
                        powers = [reckon.power(reckon.twice(reckon.points_of(piece)) / base, prime) for piece in pieces]
                        self.assertLessEqual(min(powers), 0)


if __name__ == "__main__":
    unittest.main()
