"""Rows of areas: whether a field can be cut to pieces of told areas, and its cutting to these by a fan."""

from likeshards.errors import NoAreas, NoWay
from likeshards.fans import common_bottom, fan_of
from likeshards.fields import field_twice, look_field
from likeshards.fracs import added, is_whole, lessened, multiplied, quotient, sum_of
from likeshards.papers import bars_row, is_row, must_of
from likeshards.spots import on_way, twice_of

MOST_IN_ROW = 8
HALF = (1, 2)


def look_row(row):
    """Nothing for a list of one to eight fractions above 0; of anything else NoAreas."""
    if not is_row(row) or len(row) > MOST_IN_ROW:
        raise NoAreas("a list of one to eight fractions above 0 is asked for")


def areas_of(pieces):
    """The area of each piece."""
    return [multiplied(twice_of(*piece), HALF) for piece in pieces]


def in_wholes(row, shares):
    """The areas of a row, and where the shares end that are laid one behind another, in one part of all of them."""
    bottom = common_bottom(row + shares)
    lengths = [area[0] * (bottom // area[1]) for area in row]
    ends = []
    reached = 0
    for share in shares:
        reached += share[0] * (bottom // share[1])
        ends.append(reached)
    return (lengths, ends)


def share_at(ends, place):
    """The number of the share in which a place below the last end lies; an end lies in the share behind it."""
    return len([end for end in ends if end <= place])


def lots_laid(lengths, ends):
    """By each lot that can be laid from the start, none across an end, how far it reaches and which was laid last.

    A lot is a number that has a bit for each of its lengths. How far a lot reaches doesn't hang on its order,
    so one way to lay each is enough.
    """
    laid = {0: (0, None)}
    # Rising, so that each lot is looked at behind all that are a length smaller; nothing is put to the full one.
    for lot in range((1 << len(lengths)) - 1):
        if lot not in laid:
            continue
        reached = laid[lot][0]
        end = ends[share_at(ends, reached)]
        for j, length in enumerate(lengths):
            if lot & (1 << j) == 0 and reached + length <= end:
                laid.setdefault(lot | (1 << j), (reached + length, j))
    return laid


def groups_by(row, shares):
    """Numbers of the row for each of the shares, to which all of the row comes; None where there are no such groups."""
    lengths, ends = in_wholes(row, shares)
    laid = lots_laid(lengths, ends)
    lot = (1 << len(lengths)) - 1
    if lot not in laid:
        return None
    groups = [[] for end in ends]
    while lot > 0:
        reached, j = laid[lot]
        groups[share_at(ends, reached - lengths[j])].append(j)
        lot -= 1 << j
    return [sorted(group) for group in groups]


def told_row(field, row):
    """What the areas come to beside the field's, or a fan and groups, or a paper, or open; else NoField, NoAreas."""
    look_field(field)
    look_row(row)
    over = lessened(sum_of(row), multiplied(field_twice(field), HALF))
    if over[0] != 0:
        return ("sum", over)
    for c in range(len(field)):
        groups = groups_by(row, areas_of(fan_of(field, c)))
        if groups is not None:
            return ("fan", c, groups)
    papers = [paper for paper in must_of(field)[1] if bars_row(field, paper, row)]
    if papers:
        return ("never", papers[0])
    return ("open",)


def is_group(thing):
    """Whether anything is a list of whole numbers, one at least, each above the one ahead of it."""
    if not isinstance(thing, list) or len(thing) == 0 or not all(is_whole(j) for j in thing):
        return False
    return all(thing[k - 1] < thing[k] for k in range(1, len(thing)))


def are_groups(row, shares, groups):
    """Whether anything is groups of the row, for each share one."""
    if not isinstance(groups, list) or not all(is_group(group) for group in groups):
        return False
    if sorted([j for group in groups for j in group]) != list(range(len(row))):
        return False
    return [sum_of([row[j] for j in group]) for group in groups] == shares


def cut_by(piece, areas):
    """A piece cut from its first corner to pieces of these areas, which come to its own, one behind the other."""
    hub, start, end = piece
    whole = sum_of(areas)
    pieces = []
    here = start
    done = (0, 1)
    for area in areas:
        done = added(done, area)
        there = on_way(start, end, quotient(done, whole))
        pieces.append((hub, here, there))
        here = there
    return pieces


def row_cut(field, row, c, groups):
    """The field cut by the fan from c and the groups to pieces of the row's areas; else NoField, NoAreas, NoWay."""
    look_field(field)
    look_row(row)
    fan = fan_of(field, c)
    if not are_groups(row, areas_of(fan), groups):
        raise NoWay("groups of the row by the fan are asked for")
    told = {}
    for piece, group in zip(fan, groups):
        for j, cut in zip(group, cut_by(piece, [row[at] for at in group])):
            told[j] = cut
    return [told[j] for j in range(len(row))]
