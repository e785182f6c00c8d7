"""Fractions: tuples (top, bottom) in lowest terms, the bottom from 1 on; and the primes below 100."""

from likeshards.errors import NoNumber, NoPrime

PRIMES = (
    2, 3, 5, 7, 11, 13, 17, 19, 23, 29, 31, 37, 41,
    43, 47, 53, 59, 61, 67, 71, 73, 79, 83, 89, 97,
)


def is_whole(thing):
    """Whether a thing is a whole number: a truth is an int for Python, but none here."""
    return isinstance(thing, int) and not isinstance(thing, bool)


def divisor(one, other):
    """The greatest number that divides both, 0 of 0 and 0."""
    rest = abs(one)
    by = abs(other)
    while by > 0:
        rest, by = by, rest % by
    return rest


def in_lowest(top, bottom):
    """The fraction of two whole numbers, the second of which is known not to be 0."""
    shared = divisor(top, bottom)
    # By a divisor of the bottom's sign the bottom comes out above 0.
    if bottom < 0:
        shared = -shared
    return (top // shared, bottom // shared)


def frac_of(top, bottom):
    """The fraction of two whole numbers, the second not 0; else NoNumber."""
    if not is_whole(top) or not is_whole(bottom):
        raise NoNumber("a fraction is made of two whole numbers")
    if bottom == 0:
        raise NoNumber("the bottom of a fraction is not 0")
    return in_lowest(top, bottom)


def added(one, other):
    """The sum of two fractions."""
    return in_lowest(one[0] * other[1] + other[0] * one[1], one[1] * other[1])


def lessened(one, other):
    """The first fraction less the second."""
    return in_lowest(one[0] * other[1] - other[0] * one[1], one[1] * other[1])


def multiplied(one, other):
    """The product of two fractions."""
    return in_lowest(one[0] * other[0], one[1] * other[1])


def quotient(one, other):
    """The first fraction over the second; NoNumber where that is nought."""
    if other[0] == 0:
        raise NoNumber("nothing is divided by nought")
    return in_lowest(one[0] * other[1], one[1] * other[0])


def is_below(one, other):
    """Whether the first fraction is less than the second."""
    return one[0] * other[1] < other[0] * one[1]


def sum_of(parts):
    """The sum of a list of fractions, nought of none."""
    total = (0, 1)
    for part in parts:
        total = added(total, part)
    return total


def is_frac(thing):
    """Whether anything is a fraction."""
    if not isinstance(thing, tuple) or len(thing) != 2:
        return False
    top, bottom = thing
    if not is_whole(top) or not is_whole(bottom):
        return False
    return bottom >= 1 and divisor(top, bottom) == 1


def is_prime(thing):
    """Whether anything is one of the primes below 100."""
    return is_whole(thing) and thing in PRIMES


def look_prime(thing):
    """Nothing for one of the primes below 100; of anything else NoPrime."""
    if not is_prime(thing):
        raise NoPrime("a prime number below 100 is asked for")


def times_in(number, prime):
    """How often a prime divides a whole number that is not 0."""
    rest = number
    times = 0
    while rest % prime == 0:
        rest //= prime
        times += 1
    return times


def power_in(part, prime):
    """The power of a prime in a fraction, None for nought; else NoPrime."""
    look_prime(prime)
    if part[0] == 0:
        return None
    return times_in(part[0], prime) - times_in(part[1], prime)
