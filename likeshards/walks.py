"""Walks from a border's door through doors, and a checker of walks that makes none itself."""

from likeshards.doors import Plan, border_in, on_border
from likeshards.errors import NoDoor
from likeshards.fracs import is_whole


def behind(plan, k, b):
    """The piece behind the bit b of the piece k, and the bit's number there, turned about; None on the border."""
    start, end, other = plan.meets[k][b]
    if other is None:
        return None
    return (other, plan.meets[other].index((end, start, k)))


def partner(doors, door):
    """The partner of a door: the first and the second door are partners, the third and the fourth, and so on."""
    at = doors.index(door)
    if at % 2 == 0:
        return doors[at + 1]
    return doors[at - 1]


def walk_in(plan, door):
    """The walk from what is known to be a border's door."""
    steps = []
    place = door
    while place is not None:
        k, b = place
        if plan.full[k]:
            steps.append((k, b, None))
            place = None
        else:
            out = partner(plan.doors[k], b)
            steps.append((k, b, out))
            place = behind(plan, k, out)
    return steps


def look_door(plan, door):
    """Nothing for a border's door; of anything else NoDoor."""
    # A truth is alike to 0 or 1 for Python, so that a look among the doors alone would let it pass.
    whole = isinstance(door, tuple) and all(is_whole(part) for part in door)
    if not whole or door not in border_in(plan):
        raise NoDoor("a door of the border is asked for")


def walk_from(field, pieces, frame, prime, door):
    """The walk from a border's door; else NoField, NoCutting, NoFrame, NoPrime, NoDoor."""
    plan = Plan(field, pieces, frame, prime)
    look_door(plan, door)
    return walk_in(plan, door)


def all_walks(field, pieces, frame, prime):
    """The walks from all border's doors, in their order; else NoField, NoCutting, NoFrame, NoPrime."""
    plan = Plan(field, pieces, frame, prime)
    return [walk_in(plan, door) for door in border_in(plan)]


def is_door_of(plan, k, b):
    """Whether b, of anything, is the number of a door of the piece k."""
    return is_whole(b) and b in plan.doors[k]


def comes_in(plan, step):
    """Whether a step, of anything, is a tuple of three that goes into a piece by one of its doors."""
    if not isinstance(step, tuple) or len(step) != 3:
        return False
    k = step[0]
    return is_whole(k) and 0 <= k < len(plan.doors) and is_door_of(plan, k, step[1])


def goes_on(plan, step, later):
    """Whether a step that comes in goes out by another door of its piece, into the later step."""
    k, entry, out = step
    if not is_door_of(plan, k, out) or out == entry:
        return False
    return behind(plan, k, out) == (later[0], later[1])


def ends(plan, step):
    """Whether a step that comes in is an end: in a full piece, out of which it doesn't go."""
    return step[2] is None and plan.full[step[0]]


def walk_stands(field, pieces, frame, prime, walk):
    """Whether anything leads from the border through doors to a full piece; else as all_walks refuses."""
    plan = Plan(field, pieces, frame, prime)
    if not isinstance(walk, list) or len(walk) == 0:
        return False
    if not all(comes_in(plan, step) for step in walk):
        return False
    if not on_border(plan, walk[0][0], walk[0][1]):
        return False
    if not all(goes_on(plan, walk[at - 1], walk[at]) for at in range(1, len(walk))):
        return False
    return ends(plan, walk[-1])
