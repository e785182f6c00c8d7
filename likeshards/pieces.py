"""Pieces: tuples of three spots that go round to the left, and whether such pieces are a cutting of a field."""

from likeshards.errors import NoCutting
from likeshards.fields import after, field_twice, is_out, look_field
from likeshards.fracs import lessened, multiplied, sum_of
from likeshards.spots import are_three, turn_of, twice_of

MOST_PIECES = 30


def is_piece(thing):
    """Whether anything is a piece."""
    return are_three(thing) and turn_of(thing[0], thing[1], thing[2]) == 1


def none_left(corners, k, others):
    """Whether none of the other corners lies to the left of who goes along side k."""
    return all(turn_of(corners[k], corners[after(corners, k)], other) != 1 for other in others)


def has_parting_side(one, other):
    """Whether the other lies beyond the line along some side of the one."""
    return any(none_left(one, k, other) for k in range(len(one)))


def do_lap(one, other):
    """Whether some spot lies inside both; of any two that go round as fields do, with any number of corners."""
    # Convex ones that have no spot inside both are always parted by the line along a side of one of them.
    return not has_parting_side(one, other) and not has_parting_side(other, one)


def kind_fault(pieces, fewest):
    """The fault of anything that is no list of pieces, from the fewest on to thirty; else None."""
    if not isinstance(pieces, list) or not fewest <= len(pieces) <= MOST_PIECES:
        return ("many",)
    for k, piece in enumerate(pieces):
        if not is_piece(piece):
            return ("piece", k)
    return None


def beyond_fault(field, pieces):
    """The fault of the first piece with a corner out of the field; else None."""
    for k, piece in enumerate(pieces):
        if any(is_out(field, corner) for corner in piece):
            return ("beyond", k)
    return None


def lap_fault(pieces):
    """The fault of the first piece that laps one of those ahead of it, with the first such; else None."""
    for k, piece in enumerate(pieces):
        for j in range(k):
            if do_lap(pieces[j], piece):
                return ("lap", j, k)
    return None


def left_fault(field, pieces):
    """The fault of pieces that lie in the field, don't lap, and leave some of it over; else None."""
    covered = sum_of([twice_of(piece[0], piece[1], piece[2]) for piece in pieces])
    missing = lessened(field_twice(field), covered)
    if missing[0] > 0:
        return ("left", multiplied(missing, (1, 2)))
    return None


def fault_of(field, pieces):
    """What keeps anything from being a cutting of the field, None for a cutting; else NoField."""
    look_field(field)
    fault = kind_fault(pieces, 1)
    if fault is None:
        fault = beyond_fault(field, pieces)
    if fault is None:
        fault = lap_fault(pieces)
    if fault is None:
        fault = left_fault(field, pieces)
    return fault


def look_cutting(field, pieces):
    """Nothing for a cutting of the field; else NoField, or NoCutting of anything for its pieces."""
    fault = fault_of(field, pieces)
    if fault is not None:
        raise NoCutting(fault)
