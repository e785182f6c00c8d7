"""Cuttings to try the program on: some written out, some grown by chance with a told seed."""

import random
from fractions import Fraction

from likeshards.spots import on_way
from samples import FIELDS, HEXAGON, PENTAGON, SKEW, SQUARE, TRIANGLE, corners, frac, spot, values_of


def fan(field, c=0):
    """The field cut from one of its corners."""
    begun = field[c:] + field[:c]
    return [(begun[0], begun[k], begun[k + 1]) for k in range(1, len(begun) - 1)]


def star(field, hub):
    """The field cut from a spot inside it."""
    return [(start, end, hub) for start, end in zip(field, field[1:] + field[:1])]


def cut_inside(piece, chance, greatest):
    one, other, third = piece
    amid = on_way(one, other, some_part(chance, greatest))
    hub = on_way(amid, third, some_part(chance, greatest))
    return star(piece, hub)


def cut_at_side(piece, chance, greatest):
    turned = chance.randrange(3)
    one, other, third = piece[turned:] + piece[:turned]
    amid = on_way(one, other, some_part(chance, greatest))
    return [(one, amid, third), (amid, other, third)]


def some_part(chance, greatest):
    """A fraction above 0 and below 1."""
    bottom = chance.randint(2, greatest)
    return frac(Fraction(chance.randint(1, bottom - 1), bottom))


def grown(field, many, seed, greatest=6):
    """A cutting of about this many pieces, with corners amid sides; never of more than many."""
    chance = random.Random(seed)
    pieces = fan(field, chance.randrange(len(field)))
    while len(pieces) < many:
        k = chance.randrange(len(pieces))
        way = chance.choice((cut_inside, cut_at_side)) if len(pieces) + 2 <= many else cut_at_side
        pieces[k:k + 1] = way(pieces[k], chance, greatest)
    chance.shuffle(pieces)
    return pieces


def stretched(shape, far=10 ** 26):
    """A shape moved and made greater and askew, so that its numbers have about thirty figures."""
    moved = []
    for place in shape:
        x, y = values_of(place)
        moved.append(spot(far * x + (far // 7) * y - far // 3, (far // 11) * x + far * y + far // 9 + 1))
    return tuple(moved)


def all_stretched(pieces):
    return [stretched(piece) for piece in pieces]


HALVES = fan(SQUARE)
CROSS = star(SQUARE, spot("1/2", "1/2"))
# The middle of the diagonal is a corner of two pieces, amid a side of the third.
THIRD_AMID = [
    corners((0, 0), (1, 0), (1, 1)), corners((0, 0), ("1/2", "1/2"), (0, 1)), corners(("1/2", "1/2"), (1, 1), (0, 1)),
]
# Four like pieces; each side of the field has a corner amid.
QUARTERS = [
    corners((0, 0), ("3/2", 0), (0, 1)), corners(("3/2", 0), (3, 0), ("3/2", 1)),
    corners((0, 1), ("3/2", 1), (0, 2)), corners(("3/2", 0), ("3/2", 1), (0, 1)),
]
# Each corner of the piece in the middle lies amid a side of another piece, or at its end.
WHIRL_FIELD = corners((0, 0), (7, 0), (0, 7))
WHIRL = [
    corners((0, 0), (7, 0), (1, 2)), corners((7, 0), (0, 7), (4, 1)), corners((0, 7), (0, 0), (2, 4)),
    corners((1, 2), (4, 1), (2, 4)),
]
# One piece has three corners amid one of its sides.
COMB = [corners((0, 0), (4, 0), (0, 4))] + [
    corners((4 - k, k), (4, 4), (3 - k, k + 1)) for k in range(4)
]
COMB_FIELD = corners((0, 0), (4, 0), (4, 4), (0, 4))
# On two sides of one line the corners lie unlike.
UNLIKE = [
    corners((0, 0), (2, 0), (0, 2)), corners((2, 0), (4, 0), (0, 2)), corners((4, 0), (6, 0), (0, 2)),
    corners((0, 0), (0, -2), (3, 0)), corners((3, 0), (0, -2), (6, 0)),
]
UNLIKE_FIELD = corners((0, -2), (6, 0), (0, 2))
# By the plain frame and the prime 2 the corners on the line at the bottom of piece 0 have the colours 0, 1, 0, 1, 0:
# two walks go through this piece twice, and end on the border.
WEAVE_FIELD = corners((0, 4), (0, 0), (1, -1), (4, 0))
WEAVE = [corners((0, 0), (4, 0), (0, 4))] + [corners((k, 0), (1, -1), (k + 1, 0)) for k in range(4)]
# By the same piece 0 is full and has three doors, all of them on one side.
THREE_DOORS_FIELD = corners((0, 1), (0, 0), (1, -1), (3, 0))
THREE_DOORS = [corners((0, 0), (3, 0), (0, 1))] + [corners((k, 0), (1, -1), (k + 1, 0)) for k in range(3)]
PLAIN_FRAME = corners((0, 0), (1, 0), (0, 1))

WRITTEN = [
    (TRIANGLE, [TRIANGLE]), (TRIANGLE, QUARTERS), (SQUARE, HALVES), (SQUARE, CROSS), (SQUARE, THIRD_AMID),
    (PENTAGON, fan(PENTAGON, 3)), (HEXAGON, star(HEXAGON, spot("3/2", 1))), (SKEW, fan(SKEW, 1)),
    (WHIRL_FIELD, WHIRL), (COMB_FIELD, COMB), (UNLIKE_FIELD, UNLIKE), (WEAVE_FIELD, WEAVE),
    (THREE_DOORS_FIELD, THREE_DOORS),
]
GROWN = [(field, grown(field, many, seed)) for seed, many in enumerate((6, 9, 14)) for field in FIELDS]
GREAT = [(stretched(field), all_stretched(pieces)) for field, pieces in WRITTEN + GROWN[:5]]
CUTTINGS = WRITTEN + GROWN + GREAT

# Frames that are no corners of a cutting, one of them turned to the right.
OTHER_FRAMES = [
    PLAIN_FRAME, corners(("1/2", "1/3"), (2, 5), (-1, "7/4")), corners((0, 0), (2, 6), (4, 3)),
    corners((1, 1), (1, 3), (2, 1)),
]


def frames_for(field, pieces):
    """Frames of corners of the field and of pieces, and others."""
    chance = random.Random(len(pieces))
    several = [tuple(field[k] for k in (0, 1, 2)), tuple(field[k] for k in (-1, 0, 1))]
    several += [chance.choice(pieces), chance.choice(pieces)[::-1]]
    return several + OTHER_FRAMES


TRIED_PRIMES = (2, 3, 5, 7, 97)
