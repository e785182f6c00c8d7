"""Cuttings cut further: at a spot, one held in another, and two laid over one another."""

from likeshards.errors import NoSpot, TooMany
from likeshards.fans import fan_of
from likeshards.fields import after, is_out, place_in
from likeshards.fracs import is_whole
from likeshards.left import begun_ahead, parted_by
from likeshards.pieces import MOST_PIECES, do_lap, look_cutting
from likeshards.spots import is_spot

MOST_LAID_OVER = 8


def look_many(pieces):
    """Nothing for at most thirty pieces; else TooMany."""
    if len(pieces) > MOST_PIECES:
        raise TooMany("more than thirty pieces would come")


def parts_at(piece, spot):
    """The pieces to which a piece is cut at a spot inside it or amid the ends of a side; none for another spot."""
    place = place_in(piece, spot)
    if place[0] == "inside":
        return [(spot, start, piece[after(piece, k)]) for k, start in enumerate(piece)]
    if place[0] == "side":
        start, end, third = piece[place[1]:] + piece[:place[1]]
        return [(start, spot, third), (spot, end, third)]
    return []


def cut_at(field, pieces, k, spot):
    """The cutting with its piece k cut at a spot; else NoField, NoCutting, NoSpot, TooMany."""
    look_cutting(field, pieces)
    if not is_whole(k) or not 0 <= k < len(pieces) or not is_spot(spot):
        raise NoSpot("the number of a piece and a spot are asked for")
    parts = parts_at(pieces[k], spot)
    if len(parts) == 0:
        raise NoSpot("a spot inside the piece or amid the ends of one of its sides is asked for")
    told = pieces[:k] + parts + pieces[k + 1:]
    look_many(told)
    return told


def holder_among(others, piece):
    """The number of the first of the others in which all corners of the piece lie; None where there is none."""
    for k, other in enumerate(others):
        if not any(is_out(other, corner) for corner in piece):
            return k
    return None


def holders_of(field, pieces, others):
    """For each piece of a cutting the first piece of another that holds it, or None; else NoField, NoCutting."""
    look_cutting(field, pieces)
    look_cutting(field, others)
    return [holder_among(others, piece) for piece in pieces]


def is_finer(field, pieces, others):
    """Whether each piece of a cutting lies in a piece of the other; else NoField, NoCutting."""
    return all(holder is not None for holder in holders_of(field, pieces, others))


def in_common(one, other):
    """The patch that two pieces have in common that lap."""
    patch = begun_ahead(one)
    for k, corner in enumerate(other):
        patch = parted_by(patch, corner, other[after(other, k)])[0]
    return patch


def laid_over(field, pieces, others):
    """Two cuttings laid over one another, each patch cut from its first corner; else NoField, NoCutting, TooMany."""
    look_cutting(field, pieces)
    look_cutting(field, others)
    if len(pieces) > MOST_LAID_OVER or len(others) > MOST_LAID_OVER:
        raise TooMany("cuttings of at most eight pieces are asked for")
    patches = [in_common(one, other) for one in pieces for other in others if do_lap(one, other)]
    # Two pieces have at most six corners of what is common to them, so that each patch is a field.
    told = [piece for patch in patches for piece in fan_of(patch, 0)]
    look_many(told)
    return told
