"""Promises 4 and 5, and what 8 says of fractions."""

import math
import random
import unittest
from fractions import Fraction

from likeshards.errors import NoNumber, NoPrime
from likeshards.fracs import (
    added, divisor, frac_of, is_below, is_frac, lessened, look_prime, multiplied, power_in, quotient, sum_of,
)
from samples import ODD_THINGS, TRIANGLE, frac, spot, value_of

PRIMES = [n for n in range(2, 100) if all(n % d for d in range(2, n))]
NO_PRIMES = (
    0, 1, 4, 99, 100, 101, 103, 9409, -1, -2, -97, 10 ** 30 - 1, True, False, None, "", "2", "97",
    [], [2], (), (2,), (2, 1), ((2, 1), (3, 1)), [PRIMES],
)
WAYS = (
    (added, lambda a, b: a + b), (lessened, lambda a, b: a - b), (multiplied, lambda a, b: a * b),
)


def some_fracs(seed, many, greatest):
    """Fractions of both signs, up to the greatest top and bottom."""
    chance = random.Random(seed)
    return [frac(Fraction(chance.randint(-greatest, greatest), chance.randint(1, greatest))) for k in range(many)]


def big_neighbours():
    """Two numbers of four thousand figures for which dividing on takes as many steps as can be."""
    one, other = 1, 1
    while other < 10 ** 3999:
        one, other = other, one + other
    return one, other


class TestDivisor(unittest.TestCase):
    def test_noughts(self):
        self.assertEqual(0, divisor(0, 0))
        for n in (1, -1, 7, -7, 10 ** 29, -(10 ** 29)):
            self.assertEqual(abs(n), divisor(0, n))
            self.assertEqual(abs(n), divisor(n, 0))

    def test_small_of_either_sign(self):
        for one in range(-30, 31):
            for other in range(-30, 31):
                self.assertEqual(math.gcd(one, other), divisor(one, other))

    def test_thirty_figures(self):
        chance = random.Random(4)
        for k in range(100):
            one, other, both = [chance.randint(-(10 ** 15), 10 ** 15) for j in range(3)]
            self.assertEqual(math.gcd(one * both, other * both), divisor(one * both, other * both))

    def test_four_thousand_figures(self):
        one, other = big_neighbours()
        self.assertEqual(1, divisor(one, other))
        self.assertEqual(1, divisor(-other, one))
        self.assertEqual(3 ** 4000, divisor(3 ** 4000 * 2 ** 6900, -(3 ** 4000) * 5 ** 2900))
        self.assertEqual(one, divisor(one, -one))


class TestFracOf(unittest.TestCase):
    def test_signs_and_terms(self):
        for top, bottom, told in (
            (1, 2, (1, 2)), (2, 4, (1, 2)), (-1, 2, (-1, 2)), (1, -2, (-1, 2)), (-6, -4, (3, 2)),
            (6, 3, (2, 1)), (6, -3, (-2, 1)), (7, 1, (7, 1)), (7, -1, (-7, 1)), (-3, -3, (1, 1)),
        ):
            self.assertEqual(told, frac_of(top, bottom))

    def test_nought(self):
        for bottom in (1, -1, 5, -5, 10 ** 29):
            self.assertEqual((0, 1), frac_of(0, bottom))

    def test_all_small(self):
        for top in range(-20, 21):
            for bottom in range(-20, 21):
                if bottom != 0:
                    told = frac_of(top, bottom)
                    self.assertIsInstance(told, tuple)
                    self.assertEqual(Fraction(top, bottom), value_of(told))
                    self.assertGreaterEqual(told[1], 1)

    def test_big(self):
        one, other = big_neighbours()
        self.assertEqual((-one, other), frac_of(one, -other))
        self.assertEqual((2, 3), frac_of(2 * one, 3 * one))

    def test_bottom_of_nought(self):
        for top in (0, 1, -1, 10 ** 30 - 1):
            self.assertRaises(NoNumber, frac_of, top, 0)

    def test_no_whole_numbers(self):
        for thing in (True, False, None, "1", [1], (1, 2)):
            self.assertRaises(NoNumber, frac_of, thing, 1)
            self.assertRaises(NoNumber, frac_of, 1, thing)


class TestReckoning(unittest.TestCase):
    def all_pairs(self, parts, check):
        for one in parts:
            for other in parts:
                check(one, other)

    def check_ways(self, one, other):
        for way, right in WAYS:
            told = way(one, other)
            self.assertIsInstance(told, tuple)
            self.assertEqual(right(value_of(one), value_of(other)), value_of(told))
        if other[0] != 0:
            self.assertEqual(value_of(one) / value_of(other), value_of(quotient(one, other)))

    def check_below(self, one, other):
        self.assertIs(value_of(one) < value_of(other), is_below(one, other))

    def test_written_out(self):
        self.assertEqual((5, 6), added((1, 2), (1, 3)))
        self.assertEqual((0, 1), added((1, 2), (-1, 2)))
        self.assertEqual((1, 6), lessened((1, 2), (1, 3)))
        self.assertEqual((-1, 6), lessened((1, 3), (1, 2)))
        self.assertEqual((0, 1), lessened((1, 2), (1, 2)))
        self.assertEqual((-1, 2), multiplied((-2, 3), (3, 4)))
        self.assertEqual((0, 1), multiplied((0, 1), (3, 4)))
        self.assertEqual((-8, 9), quotient((2, 3), (-3, 4)))
        self.assertEqual((0, 1), quotient((0, 1), (-3, 4)))

    def test_small(self):
        small = [frac(Fraction(top, bottom)) for top in range(-5, 6) for bottom in range(1, 6)]
        self.all_pairs(small, self.check_ways)
        self.all_pairs(small, self.check_below)

    def test_thirty_figures(self):
        big = some_fracs(30, 12, 10 ** 30 - 1) + [(10 ** 30 - 1, 1), (1, 10 ** 30 - 1), (0, 1)]
        self.all_pairs(big, self.check_ways)
        self.all_pairs(big, self.check_below)

    def test_what_was_told_is_handed_in_again(self):
        total, right = (1, 1), Fraction(1)
        for part in some_fracs(5, 60, 10 ** 30 - 1):
            total, right = added(multiplied(total, part), part), right * value_of(part) + value_of(part)
        self.assertEqual(right, value_of(total))

    def test_by_nought(self):
        for one in ((0, 1), (1, 1), (-7, 3), (10 ** 30 - 1, 1)):
            self.assertRaises(NoNumber, quotient, one, (0, 1))

    def test_below(self):
        for part in ((0, 1), (1, 2), (-1, 2), (7, 1)):
            self.assertIs(False, is_below(part, part))
        self.assertIs(True, is_below((-1, 2), (-1, 3)))
        self.assertIs(False, is_below((-1, 3), (-1, 2)))
        self.assertIs(True, is_below((1, 3), (1, 2)))
        self.assertIs(False, is_below((1, 2), (1, 3)))
        self.assertIs(True, is_below((-1, 2), (0, 1)))
        self.assertIs(True, is_below((0, 1), (1, 10 ** 29)))
        self.assertIs(False, is_below((0, 1), (-1, 10 ** 29)))


class TestSum(unittest.TestCase):
    def test_none_and_one(self):
        self.assertEqual((0, 1), sum_of([]))
        self.assertEqual((-3, 7), sum_of([(-3, 7)]))

    def test_several(self):
        self.assertEqual((1, 1), sum_of([(1, 2), (1, 3), (1, 6)]))
        self.assertEqual((0, 1), sum_of([(1, 2), (-1, 3), (-1, 6)]))
        for greatest in (9, 10 ** 30 - 1):
            parts = some_fracs(greatest, 30, greatest)
            self.assertEqual(sum(map(value_of, parts)), value_of(sum_of(parts)))

    def test_told_again(self):
        parts = some_fracs(8, 10, 99)
        self.assertEqual(sum_of(parts), sum_of(parts))


class TestIsFrac(unittest.TestCase):
    def test_fractions(self):
        for part in ((0, 1), (1, 1), (-1, 1), (1, 2), (-3, 2), (10 ** 30 - 1, 10 ** 29), (-1, 10 ** 30 - 1)):
            self.assertIs(True, is_frac(part))
        self.assertIs(True, is_frac((3 ** 4000, 2 ** 6000)))

    def test_all_small(self):
        for top in range(-12, 13):
            for bottom in range(-12, 13):
                right = bottom >= 1 and math.gcd(top, bottom) == 1
                self.assertIs(right, is_frac((top, bottom)))

    def test_not_in_lowest_terms(self):
        for part in ((2, 4), (-2, 4), (0, 2), (0, 10 ** 29), (3, 3), (10 ** 29, 10), (2, 2)):
            self.assertIs(False, is_frac(part))

    def test_bottoms(self):
        for part in ((0, 0), (1, 0), (-1, 0), (1, -1), (-1, -2), (0, -1)):
            self.assertIs(False, is_frac(part))

    def test_truths(self):
        for part in ((True, 1), (1, True), (False, 1), (True, 2), (3, True), (True, True), (1, False)):
            self.assertIs(False, is_frac(part))

    def test_of_anything(self):
        others = (
            (None, 1), (1, None), ("1", 2), (1, "2"), [1, 2], (1,), (1, 2, 3), (1, 2, 1), ((1, 2), 1),
            (1, (1, 2)), ((1, 2), (1, 2)), ((1, 2),), [(1, 2)], ([1], 2), (1, [2]), spot(1, 2), TRIANGLE, "12",
        )
        for thing in others:
            self.assertIs(False, is_frac(thing))
        for thing in ODD_THINGS:
            self.assertIs(False, is_frac(thing))


class TestPrimes(unittest.TestCase):
    def test_twenty_five(self):
        self.assertEqual(25, len(PRIMES))
        for prime in PRIMES:
            self.assertIsNone(look_prime(prime))

    def test_all_others(self):
        for n in range(-200, 400):
            if n not in PRIMES:
                self.assertRaises(NoPrime, look_prime, n)
        for thing in NO_PRIMES + ODD_THINGS:
            self.assertRaises(NoPrime, look_prime, thing)


class TestPower(unittest.TestCase):
    def test_each_prime(self):
        for prime in PRIMES:
            for k in range(5):
                self.assertEqual(k, power_in(frac(prime ** k), prime))
                self.assertEqual(k, power_in(frac(-(prime ** k) * 101), prime))
                self.assertEqual(-k, power_in(frac(Fraction(1, prime ** k)), prime))
                self.assertEqual(-k, power_in(frac(Fraction(-101, prime ** k * 103)), prime))

    def test_other_primes_in_it(self):
        for prime in PRIMES:
            rest = math.prod(PRIMES) // prime
            self.assertEqual(0, power_in(frac(rest), prime))
            self.assertEqual(0, power_in(frac(Fraction(1, rest)), prime))
            self.assertEqual(2, power_in(frac(Fraction(-prime ** 2, rest)), prime))
            self.assertEqual(-2, power_in(frac(Fraction(-rest, prime ** 2)), prime))

    def test_one_and_nought(self):
        for prime in PRIMES:
            self.assertEqual(0, power_in((1, 1), prime))
            self.assertEqual(0, power_in((-1, 1), prime))
            self.assertIsNone(power_in((0, 1), prime))

    def test_high_powers(self):
        self.assertEqual(13000, power_in((2 ** 13000, 1), 2))
        self.assertEqual(-8000, power_in((-1, 3 ** 8000), 3))

    def test_no_prime(self):
        for thing in NO_PRIMES:
            for part in ((0, 1), (1, 1), (-12, 5)):
                self.assertRaises(NoPrime, power_in, part, thing)


if __name__ == "__main__":
    unittest.main()
