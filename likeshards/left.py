"""Patches, how a line parts one, and what pieces leave over of a field.

A patch is a tuple of three or more spots that goes round as a field does, begun with the corner ahead of all others.
"""

from likeshards.errors import NoCutting, NoLine
from likeshards.fields import after, look_field
from likeshards.fracs import lessened, quotient
from likeshards.pieces import do_lap, kind_fault
from likeshards.spots import is_ahead, on_way, turn_of, twice_of


def begun_ahead(corners):
    """The same corners in the same turn, begun with the one that is ahead of all others."""
    first = 0
    for k in range(1, len(corners)):
        if is_ahead(corners[k], corners[first]):
            first = k
    return corners[first:] + corners[:first]


def crossing(start, end, one, other):
    """Where the line through one and other crosses the way from start to end, which lie on its two sides."""
    here = twice_of(one, other, start)
    there = twice_of(one, other, end)
    return on_way(start, end, quotient(here, lessened(here, there)))


def with_crossings(patch, one, other):
    """Each corner of the patch with its turn at the line, and the spots where the line crosses a side."""
    turns = [turn_of(one, other, corner) for corner in patch]
    ring = []
    for k, corner in enumerate(patch):
        end = after(patch, k)
        ring.append((corner, turns[k]))
        if turns[k] * turns[end] == -1:
            ring.append((crossing(corner, patch[end], one, other), 0))
    return ring


def part_with(ring, turn):
    """The patch of what lies where the turn is this one, None where nothing does."""
    if not any(here == turn for corner, here in ring):
        return None
    return begun_ahead(tuple(corner for corner, here in ring if here != -turn))


def parted_by(patch, one, other):
    """What of a patch lies to the left of who goes from one to other, and to the right; NoLine of alike spots."""
    if one == other:
        raise NoLine("two alike spots make no line")
    ring = with_crossings(patch, one, other)
    return (part_with(ring, 1), part_with(ring, -1))


def beside(patch, piece):
    """What of a patch lies beside a piece that laps it, as patches."""
    told = []
    rest = patch
    for k, corner in enumerate(piece):
        rest, beyond = parted_by(rest, corner, piece[after(piece, k)])
        if beyond is not None:
            told.append(beyond)
    return told


def without(patches, piece):
    """What a piece leaves over of patches; those that it doesn't lap stay as they are, so that they are few."""
    told = []
    for patch in patches:
        if do_lap(patch, piece):
            told.extend(beside(patch, piece))
        else:
            told.append(patch)
    return told


def left_over(field, pieces):
    """The patches that pieces, none to thirty, leave over of a field; else NoField, NoCutting."""
    look_field(field)
    fault = kind_fault(pieces, 0)
    if fault is not None:
        raise NoCutting(fault)
    patches = [begun_ahead(field)]
    for piece in pieces:
        patches = without(patches, piece)
    return patches
