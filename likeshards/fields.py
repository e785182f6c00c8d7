"""Fields: tuples of three to six spots that go round to the left once, convex."""

from likeshards.errors import NoField
from likeshards.fracs import is_whole, sum_of
from likeshards.spots import is_amid, is_spot, turn_of, twice_of

FEWEST = 3
MOST = 6


def after(corners, k):
    """The number of the corner behind corner k, counted round."""
    return (k + 1) % len(corners)


def others_left(corners, k):
    """Whether all corners but the ends of side k lie to the left of who goes along it."""
    end = after(corners, k)
    # Told apart by their numbers: a corner that stands twice must not pass for an end.
    return all(
        turn_of(corners[k], corners[end], corners[j]) == 1
        for j in range(len(corners))
        if j != k and j != end
    )


def is_field(thing):
    """Whether anything is a field."""
    if not isinstance(thing, tuple) or not FEWEST <= len(thing) <= MOST:
        return False
    if not all(is_spot(corner) for corner in thing):
        return False
    return all(others_left(thing, k) for k in range(len(thing)))


def look_field(thing):
    """Nothing for a field; of anything else NoField."""
    if not is_field(thing):
        raise NoField("a field is asked for")


def is_corner_number(field, thing):
    """Whether anything is the number of one of the field's corners."""
    return is_whole(thing) and 0 <= thing < len(field)


def field_twice(field):
    """Twice the area of a field; else NoField."""
    look_field(field)
    return sum_of([twice_of(field[0], field[k], field[k + 1]) for k in range(1, len(field) - 1)])


def lies_inside(field, spot):
    """Whether the spot lies to the left of every side."""
    return all(turn_of(field[k], field[after(field, k)], spot) == 1 for k in range(len(field)))


def is_out(field, spot):
    """Whether a spot lies out of the field, to the right of some side."""
    return any(turn_of(field[k], field[after(field, k)], spot) == -1 for k in range(len(field)))


def place_in(field, spot):
    """The place of a spot in a field: at a corner, amid a side, inside or out; else NoField."""
    look_field(field)
    for k in range(len(field)):
        if field[k] == spot:
            return ("corner", k)
        if is_amid(spot, field[k], field[after(field, k)]):
            return ("side", k)
    if lies_inside(field, spot):
        return ("inside",)
    return ("out",)
