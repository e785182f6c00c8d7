"""Bends: tuples (a, b, c, d, e, f) of fractions by which a spot (x, y) becomes (a x + b y + e, c x + d y + f)."""

from likeshards.errors import NoBend
from likeshards.fields import look_field
from likeshards.fracs import added, is_frac, lessened, multiplied, quotient


def size_in(bend):
    """The size of six fractions, nought where they are no bend."""
    a, b, c, d = bend[:4]
    return lessened(multiplied(a, d), multiplied(b, c))


def is_bend(thing):
    """Whether anything is a bend."""
    if not isinstance(thing, tuple) or len(thing) != 6:
        return False
    return all(is_frac(part) for part in thing) and size_in(thing)[0] != 0


def look_bend(thing):
    """Nothing for a bend; of anything else NoBend."""
    if not is_bend(thing):
        raise NoBend("a bend is asked for")


def straight_by(bend, x, y):
    """Where a bend leads a spot, but for e and f."""
    a, b, c, d = bend[:4]
    return (added(multiplied(a, x), multiplied(b, y)), added(multiplied(c, x), multiplied(d, y)))


def led_by(bend, spot):
    """Where what is known to be a bend leads a spot."""
    x, y = straight_by(bend, spot[0], spot[1])
    return (added(x, bend[4]), added(y, bend[5]))


def shape_by(bend, corners):
    """The bent corners of a field or a piece, from the first one on, in the turn in which they go round to the left."""
    told = tuple(led_by(bend, corner) for corner in corners)
    if size_in(bend)[0] < 0:
        return told[:1] + told[:0:-1]
    return told


def size_of(bend):
    """The size of a bend, below nought where it turns shapes about; else NoBend."""
    look_bend(bend)
    return size_in(bend)


def bent(bend, spot):
    """The bent spot; else NoBend."""
    look_bend(bend)
    return led_by(bend, spot)


def bent_field(bend, field):
    """The bent field; else NoBend, NoField."""
    look_bend(bend)
    look_field(field)
    return shape_by(bend, field)


def bent_pieces(bend, pieces):
    """The bent pieces; else NoBend."""
    look_bend(bend)
    return [shape_by(bend, piece) for piece in pieces]


def both_bends(one, other):
    """The bend that does what the one and then the other does; else NoBend."""
    look_bend(one)
    look_bend(other)
    a, c = straight_by(other, one[0], one[2])
    b, d = straight_by(other, one[1], one[3])
    return (a, b, c, d, *led_by(other, one[4:]))


def bend_back(bend):
    """The bend that leads each bent spot back; else NoBend."""
    look_bend(bend)
    size = size_in(bend)
    less = quotient((-1, 1), size)
    a, b, c, d, e, f = bend
    straight = (quotient(d, size), multiplied(b, less), multiplied(c, less), quotient(a, size))
    x, y = straight_by(straight, e, f)
    return (*straight, lessened((0, 1), x), lessened((0, 1), y))
