"""Where the pieces of a cutting meet: its corners, the bits of its pieces, and what lies behind each bit."""

from likeshards.fields import after
from likeshards.pieces import look_cutting
from likeshards.spots import is_ahead, is_amid


def put_in(row, spot):
    """Puts a spot into a row in which each is behind those ahead of it, where it isn't in it yet."""
    at = len(row)
    while at > 0 and is_ahead(spot, row[at - 1]):
        at -= 1
    if at == 0 or row[at - 1] != spot:
        row.insert(at, spot)


def corners_in(pieces):
    """The corners of pieces, each once, each behind those that are ahead of it."""
    row = []
    for piece in pieces:
        for corner in piece:
            put_in(row, corner)
    return row


def spots_along(corners, start, end):
    """The start, those of the corners that lie amid start and end, in turn, and the end."""
    amid = [corner for corner in corners if is_amid(corner, start, end)]
    # The corners are in their order, which along a line is the turn of one way or of the other.
    if is_ahead(end, start):
        amid.reverse()
    return [start, *amid, end]


def bits_with(corners, piece):
    """The bits of a piece, parted at the corners amid the ends of its sides."""
    bits = []
    for k, start in enumerate(piece):
        row = spots_along(corners, start, piece[after(piece, k)])
        for at in range(1, len(row)):
            bits.append((row[at - 1], row[at]))
    return bits


def all_bits(pieces):
    """The bits of each piece of a cutting."""
    corners = corners_in(pieces)
    return [bits_with(corners, piece) for piece in pieces]


def meets_in(pieces):
    """The meets of what is known to be a cutting."""
    bits = all_bits(pieces)
    owners = {bit: k for k, row in enumerate(bits) for bit in row}
    return [[(start, end, owners.get((end, start))) for start, end in row] for row in bits]


def corners_of(field, pieces):
    """The corners of a cutting; else NoField, NoCutting."""
    look_cutting(field, pieces)
    return corners_in(pieces)


def bits_of(field, pieces, k):
    """The bits (from, to) of the piece k in a cutting; else NoField, NoCutting."""
    look_cutting(field, pieces)
    return bits_with(corners_in(pieces), pieces[k])


def meets_of(field, pieces):
    """For each piece its bits (from, to, other), other the piece behind it or None; else NoField, NoCutting."""
    look_cutting(field, pieces)
    return meets_in(pieces)


def counts_of(field, pieces):
    """How many corners, bits and pieces a cutting has; else NoField, NoCutting."""
    look_cutting(field, pieces)
    # A bit that two pieces have is counted with the first of them.
    bits = [
        other
        for k, row in enumerate(meets_in(pieces))
        for start, end, other in row
        if other is None or k < other
    ]
    return (len(corners_in(pieces)), len(bits), len(pieces))
