"""Doors: bits of a cutting's pieces whose ends have the colours 0 and 1; and pieces of all three colours."""

from likeshards.colours import colour_in, colour_of, look_frame, numbers_in
from likeshards.fields import after, look_field
from likeshards.fracs import look_prime
from likeshards.meets import corners_in, meets_in
from likeshards.pieces import look_cutting


def is_door(one, other):
    """Whether of two colours one is 0 and the other 1: no others come to 1."""
    return one + other == 1


def doors_among(row, colours):
    """The numbers of those of a piece's bits that are doors, rising."""
    return [b for b, (start, end, other) in enumerate(row) if is_door(colours[start], colours[end])]


def is_full(piece, colours):
    """Whether the corners of a piece have all three colours."""
    return sorted([colours[corner] for corner in piece]) == [0, 1, 2]


class Plan:
    """A cutting seen by a frame and a prime: its meets, each piece's doors, and whether each piece is full."""

    def __init__(self, field, pieces, frame, prime):
        look_cutting(field, pieces)
        look_frame(frame)
        look_prime(prime)
        colours = {corner: colour_in(frame, prime, corner) for corner in corners_in(pieces)}
        self.meets = meets_in(pieces)
        self.doors = [doors_among(row, colours) for row in self.meets]
        self.full = [is_full(piece, colours) for piece in pieces]


def on_border(plan, k, b):
    """Whether the bit b of the piece k lies on the border."""
    return plan.meets[k][b][2] is None


def border_in(plan):
    """The border's doors of a plan."""
    return [(k, b) for k, row in enumerate(plan.doors) for b in row if on_border(plan, k, b)]


def odd_among(numbers, prime):
    """The numbers of a field's odd sides, rising, by a prime and the numbers of its corners in a frame."""
    colours = [colour_of(u, v, prime) for u, v in numbers]
    return [k for k in range(len(colours)) if is_door(colours[k], colours[after(colours, k)])]


def odd_in(field, frame, prime):
    """The numbers of the odd sides, rising, of what are known to be a field, a frame and a prime."""
    return odd_among([numbers_in(frame, corner) for corner in field], prime)


def doors_of(field, pieces, frame, prime, k):
    """The numbers of the piece k's doors, rising; else NoField, NoCutting, NoFrame, NoPrime."""
    return Plan(field, pieces, frame, prime).doors[k]


def full_of(field, pieces, frame, prime):
    """The numbers of the full pieces, rising; else NoField, NoCutting, NoFrame, NoPrime."""
    plan = Plan(field, pieces, frame, prime)
    return [k for k in range(len(pieces)) if plan.full[k]]


def border_doors(field, pieces, frame, prime):
    """The border's doors (k, b), bit b of piece k, in order; else NoField, NoCutting, NoFrame, NoPrime."""
    return border_in(Plan(field, pieces, frame, prime))


def odd_sides(field, frame, prime):
    """The numbers of the field's sides whose ends have the colours 0 and 1; else NoField, NoFrame, NoPrime."""
    look_field(field)
    look_frame(frame)
    look_prime(prime)
    return odd_in(field, frame, prime)
