"""Corners of a cutting moved: how free they are, and what comes of it."""

from likeshards.errors import NoMove, NoSpot
from likeshards.fields import after
from likeshards.fracs import multiplied, sum_of
from likeshards.meets import corners_in
from likeshards.pieces import look_cutting
from likeshards.spots import is_amid, is_spot, turn_of, twice_of


def sides_of(shape):
    """The sides (from, to) of a field or a piece."""
    return [(start, shape[after(shape, k)]) for k, start in enumerate(shape)]


def is_bound(corners, spot, start, end):
    """Whether a piece's side binds the spot: it lies amid the ends, or is one and another corner lies amid them."""
    if spot != start and spot != end:
        return is_amid(spot, start, end)
    return any(is_amid(corner, start, end) for corner in corners)


def binding_sides(field, pieces, corners, spot):
    """The sides of the field and of the pieces which a corner must stay on."""
    of_field = [(start, end) for start, end in sides_of(field) if is_amid(spot, start, end)]
    of_pieces = [side for piece in pieces for side in sides_of(piece) if is_bound(corners, spot, *side)]
    return of_field + of_pieces


def on_line(one, other, spots):
    """Whether all the spots lie on the line through two others."""
    return all(turn_of(one, other, spot) == 0 for spot in spots)


def freedom_in(field, pieces, corners, spot):
    """The freedom of what is known to be a corner of a cutting."""
    if spot in field:
        return ("fixed",)
    sides = binding_sides(field, pieces, corners, spot)
    if len(sides) == 0:
        return ("free",)
    one, other = sides[0]
    if not all(on_line(one, other, side) for side in sides):
        return ("fixed",)
    return ("along", one, other)


def freedom_of(field, pieces, spot):
    """The freedom of a corner of a cutting: fixed, along a line, or free; else NoField, NoCutting, NoSpot."""
    look_cutting(field, pieces)
    corners = corners_in(pieces)
    if not is_spot(spot) or spot not in corners:
        raise NoSpot("a corner of the cutting is asked for")
    return freedom_in(field, pieces, corners, spot)


def lets(freedom, spot, goal):
    """Whether a freedom lets a spot be moved to the goal."""
    if freedom[0] == "fixed":
        return spot == goal
    return freedom[0] == "free" or on_line(freedom[1], freedom[2], [goal])


def with_moved(pieces, spot, goal):
    """The same tuples of three spots with the goal for the spot wherever it stands, whatever comes of it."""
    return [tuple(goal if corner == spot else corner for corner in piece) for piece in pieces]


def moved(field, pieces, spot, goal):
    """The cutting with a corner moved to the goal; else NoField, NoCutting, NoSpot, NoMove, NoCutting of what comes."""
    if not lets(freedom_of(field, pieces, spot), spot, goal):
        raise NoMove("the corner has no freedom to be moved there")
    told = with_moved(pieces, spot, goal)
    look_cutting(field, told)
    return told


def signed_sum(pieces):
    """Half the sum of the twices of tuples of three spots, below nought for those turned to the right."""
    return multiplied(sum_of([twice_of(*piece) for piece in pieces]), (1, 2))
