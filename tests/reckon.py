"""The plane reckoned in Fractions, by other ways than the program's, to hold its answers against."""

import itertools
import math
from fractions import Fraction

from samples import values_of

PRIMES = [n for n in range(2, 100) if all(n % d for d in range(2, n))]


def points_of(shape):
    """The corners of a tuple of spots as pairs of Fractions."""
    return [values_of(place) for place in shape]


def turn(p, q, r):
    return (q[0] - p[0]) * (r[1] - p[1]) - (r[0] - p[0]) * (q[1] - p[1])


def sides(points):
    return list(zip(points, points[1:] + points[:1]))


def twice(points):
    """Twice the area, by the sides as seen from the origin."""
    return sum(a[0] * b[1] - b[0] * a[1] for a, b in sides(points))


def area(shape):
    """The area of a tuple of spots that goes round to the left."""
    return twice(points_of(shape)) / 2


def left_part(points, p, q):
    """What lies to the left of who goes from p to q, or on this line; doubled corners may be in it."""
    kept = []
    for a, b in sides(points):
        here, there = turn(p, q, a), turn(p, q, b)
        if here >= 0:
            kept.append(a)
        if here * there < 0:
            t = here / (here - there)
            kept.append((a[0] + t * (b[0] - a[0]), a[1] + t * (b[1] - a[1])))
    return kept


def in_common(one, other):
    """The corners of what two convex shapes have in common."""
    for p, q in sides(other):
        one = left_part(one, p, q)
    return one


def lap(one, other):
    return twice(in_common(points_of(one), points_of(other))) > 0


def lies_in(point, points):
    """Whether a point lies inside, or on a side."""
    return all(turn(p, q, point) >= 0 for p, q in sides(points))


def goes_round(points):
    """Whether all other corners lie to the left of each side."""
    n = len(points)
    return n >= 3 and all(
        turn(points[k], points[(k + 1) % n], points[j]) > 0
        for k in range(n) for j in range(n) if j not in (k, (k + 1) % n)
    )


def is_patch(shape):
    """Whether it is a tuple of spots that goes round, begun with the corner ahead of all others."""
    points = points_of(shape)
    return isinstance(shape, tuple) and goes_round(points) and points[0] == min(points)


def crossings(shapes):
    """The x of each spot in which the sides of shapes cross, and of their corners."""
    lines = [side for shape in shapes for side in sides(shape)]
    found = {x for shape in shapes for x, y in shape}
    for (a, b), (c, d) in itertools.combinations(lines, 2):
        here, there = turn(c, d, a), turn(c, d, b)
        if here * there < 0 and turn(a, b, c) * turn(a, b, d) < 0:
            found.add(a[0] + here / (here - there) * (b[0] - a[0]))
    return sorted(found)


def span_at(points, x):
    """The lowest and the highest y of a convex shape at an x at which it has no corner; None beside it."""
    heights = []
    for a, b in sides(points):
        if min(a[0], b[0]) < x < max(a[0], b[0]):
            heights.append(a[1] + (x - a[0]) / (b[0] - a[0]) * (b[1] - a[1]))
    return (min(heights), max(heights)) if heights else None


def covered_at(shapes, x):
    """How long the part is that the shapes cover at an x."""
    total, top = Fraction(0), None
    for low, high in sorted(span for span in (span_at(shape, x) for shape in shapes) if span):
        if top is None or low > top:
            total, top = total + high - low, high
        elif high > top:
            total, top = total + high - top, high
    return total


def twice_covered(shapes):
    """Twice the area of what convex shapes cover together, which between crossings grows evenly."""
    cuts = crossings(shapes)
    return 2 * sum((b - a) * covered_at(shapes, (a + b) / 2) for a, b in zip(cuts, cuts[1:]))


def power(value, prime):
    """The power of a prime in a Fraction, without bound for nought."""
    if value == 0:
        return math.inf
    count = 0
    while value.numerator % prime == 0:
        value, count = value / prime, count + 1
    while value.denominator % prime == 0:
        value, count = value * prime, count - 1
    return count


def numbers(frame, place):
    """The numbers of a spot in a frame, by the inverse of a matrix."""
    (ox, oy), (px, py), (qx, qy) = points_of(frame)
    x, y = values_of(place)
    a, b, c, d = px - ox, qx - ox, py - oy, qy - oy
    size = a * d - b * c
    return ((d * (x - ox) - b * (y - oy)) / size, (a * (y - oy) - c * (x - ox)) / size)


def colour(frame, prime, place):
    u, v = [power(value, prime) for value in numbers(frame, place)]
    if min(u, v) > 0:
        return 0
    return 1 if u <= v else 2


def threes(field):
    """All ways to take three unlike corners, by their numbers."""
    return itertools.permutations(range(len(field)), 3)


def right_odd(field, paper):
    """The odd sides of a paper."""
    frame = [field[k] for k in paper[:3]]
    tint = [colour(frame, paper[3], corner) for corner in field]
    return [k for k, one in enumerate(tint) if {one, tint[(k + 1) % len(tint)]} == {0, 1}]


def ratio(field, paper):
    """The field's twice over the twice of a paper's frame."""
    return twice(points_of(field)) / turn(*[points_of(field)[k] for k in paper[:3]])


def right_bar(field, paper):
    """The bar of a paper, None where it has none."""
    if len(right_odd(field, paper)) % 2 == 0:
        return None
    return max(0, power(ratio(field, paper), paper[3]))


def best_bars(field):
    """By each prime by which some paper has a bar above 0, the greatest, of all papers."""
    best = {}
    for three in threes(field):
        for prime in PRIMES:
            if power(ratio(field, (*three, prime)), prime) > 0:
                bar = right_bar(field, (*three, prime))
                if bar is not None:
                    best[prime] = max(bar, best.get(prime, 0))
    return best


def bits(pieces, piece):
    """The bits of a piece, by the parts of the way at which the corners of all pieces lie on a side."""
    places = {corner for other in pieces for corner in other}
    told = []
    for one, other in zip(piece, piece[1:] + piece[:1]):
        (ax, ay), (bx, by) = values_of(one), values_of(other)
        on_side = {}
        for place in places:
            x, y = values_of(place)
            part = (x - ax) / (bx - ax) if bx != ax else (y - ay) / (by - ay)
            if 0 <= part <= 1 and (x, y) == (ax + part * (bx - ax), ay + part * (by - ay)):
                on_side[part] = place
        row = [on_side[part] for part in sorted(on_side)]
        told += list(zip(row, row[1:]))
    return told


def on_border(field, bit):
    """Whether both ends of a bit lie on one side of the field."""
    ends = points_of(bit)
    return any(all(turn(p, q, end) == 0 for end in ends) for p, q in sides(points_of(field)))


class Sight:
    """A cutting seen by a frame and a prime: bits, doors, full pieces, and what lies behind each bit."""

    def __init__(self, field, pieces, frame, prime):
        tint = {place: colour(frame, prime, place) for piece in pieces for place in piece}
        self.bits = [bits(pieces, piece) for piece in pieces]
        self.doors = [[b for b, bit in enumerate(row) if {tint[end] for end in bit} == {0, 1}] for row in self.bits]
        self.full = [k for k, piece in enumerate(pieces) if len({tint[place] for place in piece}) == 3]
        found = {bit: (k, b) for k, row in enumerate(self.bits) for b, bit in enumerate(row)}
        self.behind = {place: found.get(bit[::-1]) for bit, place in found.items()}
        self.border = [(k, b) for k, row in enumerate(self.doors) for b in row if on_border(field, self.bits[k][b])]

    def walk(self, door):
        """The walk from a border's door, by partners put side by side."""
        steps = []
        while True:
            k, b = door
            if k in self.full:
                return steps + [(k, b, None)]
            row = iter(self.doors[k])
            mates = dict(pair for one, other in zip(row, row) for pair in ((one, other), (other, one)))
            steps.append((k, b, mates[b]))
            door = self.behind[k, mates[b]]
            if door is None:
                return steps

    def stands(self, walk):
        """What promise 23 says, of a list of tuples of three whole numbers or None."""
        if not walk or walk[0][:2] not in self.border:
            return False
        for at, (k, b, out) in enumerate(walk):
            if k not in range(len(self.doors)) or b not in self.doors[k]:
                return False
            if at == len(walk) - 1:
                return out is None and k in self.full
            if out is None or out == b or out not in self.doors[k] or self.behind[k, out] != walk[at + 1][:2]:
                return False

    def ways(self, most):
        """All walks that stand, of at most so many steps."""
        rows = [[(k, b, None)] for k, b in self.border]
        for length in range(most):
            for row in rows:
                if row[-1][0] in self.full:
                    yield row
            rows = [
                row[:-1] + [(row[-1][0], row[-1][1], out), (*self.behind[row[-1][0], out], None)]
                for row in rows for out in self.doors[row[-1][0]]
                if out != row[-1][1] and self.behind[row[-1][0], out] is not None
            ]
