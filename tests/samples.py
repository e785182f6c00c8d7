"""Short ways to write what the tests hand in, and things that are almost right."""

import random
from fractions import Fraction


def frac(value):
    """A fraction of the program, of an int, a Fraction or a text like "1/2"."""
    value = Fraction(value)
    return (value.numerator, value.denominator)


def value_of(part):
    """A fraction of the program as a Fraction, which also sees that it is in lowest terms."""
    top, bottom = part
    value = Fraction(top, bottom)
    if (value.numerator, value.denominator) != (top, bottom):
        raise AssertionError(f"not in lowest terms: {part}")
    return value


def spot(x, y):
    return (frac(x), frac(y))


def values_of(place):
    """Both parts of a spot as Fractions."""
    return (value_of(place[0]), value_of(place[1]))


def some_spots(seed, many, greatest):
    """Spots by chance, the tops and bottoms of their parts at most the greatest."""
    chance = random.Random(seed)

    def number():
        return Fraction(chance.randint(-greatest, greatest), chance.randint(1, greatest))

    return [spot(number(), number()) for k in range(many)]


def corners(*pairs):
    """A tuple of spots, of pairs of coordinates."""
    return tuple(spot(x, y) for x, y in pairs)


TRIANGLE = corners((0, 0), (3, 0), (0, 2))
SQUARE = corners((0, 0), (1, 0), (1, 1), (0, 1))
PENTAGON = corners((0, 0), (2, -1), (4, 0), (3, 2), (1, 2))
HEXAGON = corners((1, 0), (2, 0), (3, 1), (2, 2), (1, 2), (0, 1))
SKEW = corners(("-7/3", "1/2"), ("5/4", "-9/7"), ("11/2", "2/3"), ("1/6", "13/5"))
FIELDS = (TRIANGLE, SQUARE, PENTAGON, HEXAGON, SKEW)

# Fields with hubs inside and amid sides, for numbers for which no corner is a hub.
ON_SIDE = corners((1, 1), (3, 1), (5, 3), (3, 4))
INSIDE = corners((5, 1), (6, 4), (5, 6), (3, 4))
FIVE = corners((1, 5), (0, 0), (3, 0), (6, 5), (6, 6))
FIVE_ON_SIDE = corners((1, 1), (3, 3), (2, 5), (1, 4), (0, 1))
SIX = corners((1, 0), ("7/3", 2), (2, 3), ("4/9", "5/3"), ("-97/45", "-4/3"), ("-13/5", -3))
# For six the second count of its hub is nearly all.
LATE = corners((2, 5), (6, 0), (6, 5), (3, 6))
HUB_FIELDS = (ON_SIDE, INSIDE, FIVE, FIVE_ON_SIDE, SIX, LATE)
# The numbers of its fans are 9, 6, 9, 3 and 6.
UNLIKE_FANS = corners((0, 4), (1, 2), (4, 0), (4, 2), (1, 5))

# Of no sort that the program asks for, whatever it asks for.
ODD_THINGS = (
    None, True, False, "", "a", "1/2", "12", [], [1, 2], [[1, 2], [3, 4]], (), (1,), (1, 2, 3),
    (None, None), ("1", "2"), ([1], [2]), ((((1, 2), 3), 4), 5), [(1, 2), (3, 4)],
    0, 1, -1, 10 ** 30 - 1, -(10 ** 30 - 1),
)
