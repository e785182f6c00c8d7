"""Promises 33 and 34: what is told of a row of areas, and fields cut by a fan and groups."""

import copy
import itertools
import random
import unittest
from fractions import Fraction

import reckon
from cuttings import GREAT, GROWN, WRITTEN, fan, stretched
from likeshards.errors import NoAreas, NoField, NoWay
from likeshards.papers import bars_row, look_paper
from likeshards.pieces import fault_of
from likeshards.rows import row_cut, told_row
from likeshards.telling import told_many
from samples import FIELDS, HEXAGON, ODD_THINGS, PENTAGON, SKEW, SQUARE, TRIANGLE, UNLIKE_FANS, corners, frac, value_of

ALL_FIELDS = list(FIELDS) + [UNLIKE_FANS, stretched(PENTAGON), corners((0, 0), (1, 0), ("1/2", 1), (0, 1))]
NO_ROWS = (
    [], [(1, 2)] * 9, [(1, 9)] * 30, ((1, 2), (1, 2)), [(0, 1)], [(-1, 2)], [(1, 1), (0, 1)], [(1, 1), (1, 2), (-1, 2)],
    [(2, 4)], [1], [(1, 2), None], [[1, 2]], [(True, 2)], [(1, True)], [(1, 0)], [(1, -2)], None, True, 1, "1/2",
    ["1/2"], [[(1, 2)]], [(1, 2, 3)], [(1,)], [(1, 2), "x"],
)


def fracs(*areas):
    return [frac(area) for area in areas]


def fan_areas(field, c):
    return [reckon.area(piece) for piece in fan(field, c)]


def are_groups(field, row, c, groups):
    """What promise 33 says of groups, by Fractions."""
    shares = fan_areas(field, c)
    return (
        isinstance(groups, list) and len(groups) == len(shares)
        and all(isinstance(group, list) and group and group == sorted(set(group)) for group in groups)
        and sorted(itertools.chain(*groups)) == list(range(len(row)))
        and all(sum(value_of(row[j]) for j in group) == share for group, share in zip(groups, shares))
    )


def some_groups(field, row, c):
    """Whether there are groups by the fan from c, by a look at each way to share out."""
    shares = fan_areas(field, c)
    for way in itertools.product(range(len(shares)), repeat=len(row)):
        sums = [Fraction(0)] * len(shares)
        for area, k in zip(row, way):
            sums[k] += value_of(area)
        if sums == shares:
            return True
    return False


def parted(share, many, chance):
    """A share as a sum of many areas."""
    cuts = sorted(chance.sample(range(1, 24), many - 1))
    return [share * Fraction(b - a, 24) for a, b in zip([0] + cuts, cuts + [24])]


def some_row(field, c, many, chance):
    """A row for which there are groups by the fan from c."""
    shares = fan_areas(field, c)
    counts = [1] * len(shares)
    while sum(counts) < many:
        counts[chance.randrange(len(counts))] += 1
    row = [area for share, count in zip(shares, counts) for area in parted(share, count, chance)]
    chance.shuffle(row)
    return fracs(*row)


class TestToldRow(unittest.TestCase):
    def test_sum(self):
        self.assertEqual(("sum", frac("1/2")), told_row(SQUARE, fracs(1, "1/2")))
        self.assertEqual(("sum", frac("-1/2")), told_row(SQUARE, fracs("1/2")))
        self.assertEqual(("sum", frac("-1/12")), told_row(SQUARE, fracs("1/3", "1/3", "1/4")))
        self.assertEqual(("sum", frac("1/10")), told_row(SQUARE, fracs(*["1/5"] * 5, "1/10")))
        self.assertEqual(("sum", frac(-2)), told_row(TRIANGLE, fracs(1)))
        tiny = Fraction(1, 10 ** 30 - 1)
        self.assertEqual(("sum", frac(tiny)), told_row(SQUARE, fracs("1/2", "1/2", tiny)))

    def test_fan(self):
        self.assertIn(told_row(SQUARE, fracs("1/2", "1/2")), (("fan", 0, [[0], [1]]), ("fan", 0, [[1], [0]])))
        self.assertEqual(("fan", 0, [[0]]), told_row(TRIANGLE, fracs(3)))
        self.assertEqual(("fan", 0, [[0, 1, 2]]), told_row(TRIANGLE, fracs(1, "1/2", "3/2")))
        word, c, groups = told_row(SQUARE, fracs("1/3", "1/4", "1/6", "1/4"))
        self.assertEqual(("fan", 0), (word, c))
        self.assertIn(groups, ([[0, 2], [1, 3]], [[1, 3], [0, 2]]))

    def test_first_corner(self):
        # By the fan from 0 the shares are 2/3 and 1/3 of the area, by that from 1 the same in another turn.
        field = corners((0, 0), (4, 0), (4, 4), (2, 4))
        self.assertEqual([8, 4], fan_areas(field, 0))
        self.assertEqual([4, 8], fan_areas(field, 1))
        self.assertEqual(("fan", 0, [[1], [0]]), told_row(field, fracs(4, 8)))
        # The numbers of these fans are unlike.
        shares = [sorted(fan_areas(UNLIKE_FANS, c)) for c in range(5)]
        self.assertNotEqual(shares[0], shares[3])
        told = told_row(UNLIKE_FANS, fracs(*shares[3]))
        self.assertEqual(("fan", shares.index(shares[3])), told[:2])
        self.assertGreater(told[1], 0)

    def test_never(self):
        for field, row in (
            (SQUARE, fracs(1)), (SQUARE, fracs("1/3", "1/3", "1/3")), (SQUARE, fracs("1/3", "2/3")),
            (SQUARE, fracs(*["1/7"] * 7)), (SQUARE, fracs("1/5", "4/5")),
        ):
            told = told_row(field, row)
            self.assertEqual(("never", 2), (told[0], len(told)))
            self.assertIs(True, bars_row(field, told[1], row))

    def test_open(self):
        self.assertEqual(("open",), told_row(SQUARE, fracs("1/4", "3/4")))
        self.assertEqual(("open",), told_row(SQUARE, fracs("1/3", "1/3", "1/12", "1/4")))

    def check(self, field, row):
        """What is told, held against all ways to share out and all papers by some primes."""
        kept = copy.deepcopy(row)
        told = told_row(field, row)
        self.assertEqual(kept, row)
        self.assertIsInstance(told, tuple)
        total = sum(value_of(area) for area in row)
        firsts = []
        if total == reckon.area(field):
            firsts = [c for c in range(len(field)) if some_groups(field, row, c)][:1]
        if total != reckon.area(field):
            self.assertEqual(("sum", frac(total - reckon.area(field))), told)
        elif firsts:
            self.assertEqual(("fan", firsts[0], 3), (*told[:2], len(told)))
            self.assertTrue(are_groups(field, row, *told[1:]))
        else:
            papers = [
                (*three, prime) for three in reckon.threes(field) for prime in reckon.PRIMES
                if bars_row(field, (*three, prime), row)
            ]
            self.assertEqual("never" if papers else "open", told[0])
            if papers:
                self.assertIn(told[1], papers)
        return told[0]

    def test_some_rows(self):
        chance = random.Random(33)
        seen = {}
        for field in ALL_FIELDS:
            for k in range(5):
                many = chance.randint(len(field) - 2, 6)
                row = some_row(field, chance.randrange(len(field)), many, chance)
                word = self.check(field, row)
                seen[word] = seen.get(word, 0) + 1
            for k in range(4):
                row = fracs(*parted(reckon.area(field), chance.randint(1, 5), chance))
                word = self.check(field, row)
                seen[word] = seen.get(word, 0) + 1
            word = self.check(field, row[1:] + [frac("1/97")])
            seen[word] = seen.get(word, 0) + 1
        self.assertEqual({"sum", "fan", "never", "open"}, set(seen))
        self.assertGreater(min(seen.values()), 3)

    def test_eight(self):
        chance = random.Random(8)
        for field in (TRIANGLE, SQUARE, SKEW):
            for k in range(4):
                self.assertEqual("fan", self.check(field, some_row(field, k % len(field), 8, chance)))
        for field in (PENTAGON, HEXAGON):
            for k in range(20):
                c = chance.randrange(len(field))
                row = some_row(field, c, 8, chance)
                told = told_row(field, row)
                self.assertEqual("fan", told[0])
                self.assertLessEqual(told[1], c)
                self.assertTrue(are_groups(field, row, *told[1:]))

    def test_not_the_greatest_first(self):
        # Each half is 12: who lays 6 and 5 first has nothing that comes to the 1 that is left.
        field = corners((0, 0), (24, 0), (24, 1), (0, 1))
        row = fracs(6, 3, 3, 5, 5, 2)
        told = told_row(field, row)
        self.assertEqual("fan", told[0])
        self.assertTrue(are_groups(field, row, *told[1:]))

    def test_one_area(self):
        for field in ALL_FIELDS:
            whole = fracs(reckon.area(field))
            if len(field) == 3:
                self.assertEqual(("fan", 0, [[0]]), told_row(field, whole))
            else:
                self.assertIn(told_row(field, whole)[0], ("never", "open"))

    def test_like_areas_as_told_many(self):
        for field in ALL_FIELDS:
            for many in range(1, 9):
                told = told_row(field, fracs(*[reckon.area(field) / many] * many))
                right = told_many(field, many)
                if told[0] == "fan":
                    self.assertEqual(("fan", told[1]), right)
                elif right[0] != "hub":
                    self.assertEqual(right[0], told[0])

    def test_no_areas(self):
        for thing in NO_ROWS + ODD_THINGS:
            if thing != [(1, 2), (3, 4)]:
                with self.subTest(thing):
                    self.assertRaises(NoAreas, told_row, SQUARE, thing)
                    self.assertRaises(NoAreas, row_cut, SQUARE, thing, 0, [[0], [1]])
                    self.assertRaises(NoAreas, row_cut, SQUARE, thing, None, None)
        self.assertEqual(("sum", frac("1/4")), told_row(SQUARE, [(1, 2), (3, 4)]))

    def test_no_field_first(self):
        for thing in ODD_THINGS + (SQUARE[::-1], list(SQUARE), SQUARE[:2]):
            for row in (fracs("1/2", "1/2"), None, []):
                self.assertRaises(NoField, told_row, thing, row)
                self.assertRaises(NoField, row_cut, thing, row, 0, [[0], [1]])
                self.assertRaises(NoField, row_cut, thing, row, None, None)

    def test_told_anew(self):
        row = fracs("1/2", "1/4", "1/4")
        told = told_row(SQUARE, row)
        kept = copy.deepcopy(told)
        told[2][0].append(9)
        told[2].clear()
        self.assertEqual(kept, told_row(SQUARE, row))
        row.append(frac(1))
        self.assertEqual(kept, told_row(SQUARE, row[:3]))

    def test_no_cutting_has_a_barred_row(self):
        tried = 0
        for field, pieces in WRITTEN + GROWN + GREAT:
            if len(pieces) <= 8:
                tried += 1
                row = fracs(*[reckon.area(piece) for piece in pieces])
                self.assertIn(told_row(field, row)[0], ("fan", "open"))
        self.assertGreater(tried, 15)

    def test_a_paper_is_told(self):
        told = told_row(SQUARE, fracs("1/3", "2/3"))
        self.assertIsNone(look_paper(SQUARE, told[1]))


class TestRowCut(unittest.TestCase):
    def test_written_out(self):
        a, b, c, d = SQUARE
        self.assertEqual([(a, b, c), (a, c, d)], row_cut(SQUARE, fracs("1/2", "1/2"), 0, [[0], [1]]))
        self.assertEqual([(a, c, d), (a, b, c)], row_cut(SQUARE, fracs("1/2", "1/2"), 0, [[1], [0]]))
        upper, right = corners(("2/3", 1), (1, "1/2"))
        row = fracs("1/6", "1/4", "1/4", "1/3")
        self.assertEqual(
            [(a, c, upper), (a, b, right), (a, right, c), (a, upper, d)], row_cut(SQUARE, row, 0, [[1, 2], [0, 3]])
        )
        left, low = corners((0, "1/3"), ("1/2", 0))
        self.assertEqual(
            [(c, d, left), (c, a, low), (c, low, b), (c, left, a)],
            row_cut(SQUARE, fracs("1/3", "1/4", "1/4", "1/6"), 2, [[0, 3], [1, 2]]),
        )

    def test_triangle(self):
        a, b, c = TRIANGLE
        middle = corners((1, 0))[0]
        self.assertEqual([(c, a, middle), (c, middle, b)], row_cut(TRIANGLE, fracs(1, 2), 2, [[0, 1]]))

    def test_some_rows(self):
        chance = random.Random(34)
        tried = 0
        for field in ALL_FIELDS:
            for k in range(8):
                c = chance.randrange(len(field))
                row = some_row(field, c, chance.randint(len(field) - 2, 8), chance)
                word, first, groups = told_row(field, row)
                tried += 1
                kept = copy.deepcopy((row, groups))
                told = row_cut(field, row, first, groups)
                self.assertEqual(kept, (row, groups))
                self.check(field, row, first, groups, told)
        self.assertGreater(tried, 50)

    def check(self, field, row, c, groups, told):
        self.assertIsInstance(told, list)
        self.assertEqual([value_of(area) for area in row], [reckon.area(piece) for piece in told])
        self.assertIsNone(fault_of(field, told))
        for piece, group in zip(fan(field, c), groups):
            ends = [piece[1]]
            for j in group:
                self.assertEqual((field[c], ends[-1]), told[j][:2])
                ends.append(told[j][2])
            self.assertEqual(piece[2], ends[-1])

    def test_other_groups_than_the_told_ones(self):
        row = fracs(*["1/8"] * 8)
        for groups in ([[0, 1, 2, 3], [4, 5, 6, 7]], [[4, 5, 6, 7], [0, 1, 2, 3]], [[0, 2, 4, 6], [1, 3, 5, 7]]):
            for c in range(4):
                self.check(SQUARE, row, c, groups, row_cut(SQUARE, row, c, groups))

    def test_no_way(self):
        row = fracs("1/4", "1/4", "1/4", "1/4")
        self.assertEqual(4, len(row_cut(SQUARE, row, 0, [[0, 1], [2, 3]])))
        for groups in (
            [[0, 1], [1, 2]], [[0, 1], [1, 2, 3]], [[0, 0], [2, 3]], [[0, 0, 1], [2, 3]], [[0, 1], [2]], [[0], [2, 3]],
            [[0, 1], [2, 4]], [[0, 1], [2, -1]], [[-1, 1], [0, 2]], [[0, 1], [2, 3, 4]], [[1, 0], [2, 3]],
            [[0, 1], [3, 2]], [[0, 1, 2, 3], []], [[], [0, 1, 2, 3]], [[0, 1, 2], [3]], [[0], [1, 2, 3]],
            [[0, True], [2, 3]], [[False, 1], [2, 3]], [[0, 1], [2, "3"]], [[0, 1], [2, None]], [[0, 1], [2, (3, 1)]],
            [[0, 1], (2, 3)], [(0, 1), (2, 3)], ([0, 1], [2, 3]), [[0, 1]], [[0, 1], [2, 3], []], [[0, 1], [2], [3]],
            [[0, 1, 2, 3]], [], [[], []], [[0, 1], None], [[[0], 1], [2, 3]], [0, 1, 2, 3], [[0, 1], 5], ["01", "23"],
        ) + ODD_THINGS:
            with self.subTest(groups):
                self.assertRaises(NoWay, row_cut, SQUARE, row, 0, groups)

    def test_areas_that_do_not_come_to_the_pieces(self):
        row = fracs("1/3", "1/6", "1/4", "1/4")
        for groups in ([[0, 2], [1, 3]], [[0, 3], [1, 2]], [[1, 2], [0, 3]], [[0], [1, 2, 3]]):
            self.assertRaises(NoWay, row_cut, SQUARE, row, 0, groups)
        self.assertEqual(4, len(row_cut(SQUARE, row, 0, [[0, 1], [2, 3]])))
        # Nor do those of a row of another sum.
        self.assertRaises(NoWay, row_cut, SQUARE, fracs("1/2", "1/3"), 0, [[0], [1]])
        self.assertRaises(NoWay, row_cut, SQUARE, fracs("1/2", "1/2", "1/2"), 0, [[0], [1, 2]])

    def test_groups_of_another_corner(self):
        field = corners((0, 0), (4, 0), (4, 4), (2, 4))
        row = fracs(4, 8)
        self.assertEqual(2, len(row_cut(field, row, 0, [[1], [0]])))
        self.assertRaises(NoWay, row_cut, field, row, 1, [[1], [0]])
        self.assertEqual(2, len(row_cut(field, row, 1, [[0], [1]])))

    def test_no_corner(self):
        row = fracs("1/2", "1/2")
        for c in (4, -1, True, False, None, "0", (0,), [0], SQUARE[0], 10 ** 30 - 1):
            self.assertRaises(NoWay, row_cut, SQUARE, row, c, [[0], [1]])

    def test_told_anew(self):
        row, groups = fracs("1/2", "1/4", "1/4"), [[0], [1, 2]]
        told = row_cut(SQUARE, row, 0, groups)
        kept = list(told)
        told.clear()
        self.assertEqual(kept, row_cut(SQUARE, row, 0, groups))
        self.assertEqual((fracs("1/2", "1/4", "1/4"), [[0], [1, 2]]), (row, groups))


if __name__ == "__main__":
    unittest.main()
