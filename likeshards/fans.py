"""Fans: a field cut to pieces from one of its corners, and these to like ones."""

from likeshards.errors import NoWay
from likeshards.fields import is_corner_number, look_field
from likeshards.fracs import divisor, frac_of, is_whole
from likeshards.pieces import MOST_PIECES
from likeshards.spots import on_way, twice_of


def fan_of(field, c):
    """The pieces of the fan from the corner c; else NoField, or NoWay of anything for c."""
    look_field(field)
    if not is_corner_number(field, c):
        raise NoWay("the number of one of the field's corners is asked for")
    begun = field[c:] + field[:c]
    return [(begun[0], begun[k], begun[k + 1]) for k in range(1, len(begun) - 1)]


def common_bottom(parts):
    """The least number from 1 on that all the fractions' bottoms divide."""
    common = 1
    for part in parts:
        common = common // divisor(common, part[1]) * part[1]
    return common


def in_least(numbers):
    """The numbers over the greatest one that divides all of them."""
    shared = 0
    for number in numbers:
        shared = divisor(shared, number)
    return [number // shared for number in numbers]


def shares_in(fan):
    """The least whole numbers that are to one another as the areas of a fan's pieces."""
    twices = [twice_of(piece[0], piece[1], piece[2]) for piece in fan]
    common = common_bottom(twices)
    return in_least([twice[0] * (common // twice[1]) for twice in twices])


def shares_of(field, c):
    """The shares of the fan from the corner c; else NoField, NoWay."""
    return shares_in(fan_of(field, c))


def even_ways(start, end, many):
    """The way from start to end parted evenly in many ways (from, to), one behind the other; many from 1 on."""
    row = [on_way(start, end, frac_of(k, many)) for k in range(many + 1)]
    return [(row[k], row[k + 1]) for k in range(many)]


def cut_evenly(piece, many):
    """A piece cut in many like ones from its first corner, by spots that part the side across from it evenly."""
    hub, start, end = piece
    return [(hub, one, other) for one, other in even_ways(start, end, many)]


def fan_cut(field, c, many):
    """The fan from the corner c cut in many like pieces; else NoField, NoWay."""
    fan = fan_of(field, c)
    shares = shares_in(fan)
    number = sum(shares)
    if not is_whole(many) or not 1 <= many <= MOST_PIECES or many % number != 0:
        raise NoWay("a multiple of the fan's number, from 1 to 30, is asked for")
    pieces = []
    for piece, share in zip(fan, shares):
        pieces.extend(cut_evenly(piece, share * many // number))
    return pieces
