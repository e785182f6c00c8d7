"""Hubs: spots of a field by which it is cut to like pieces, as many on each side as its count tells."""

from likeshards.errors import NoNumber, NoWay
from likeshards.fans import common_bottom, even_ways
from likeshards.fields import after, field_twice, look_field
from likeshards.fracs import added, is_whole, lessened, multiplied, quotient
from likeshards.spots import is_spot, part_on, twice_of

MOST_OF_HUB = 24


def parts_at(field, spot, many):
    """For each side twice the area of the spot and the side's ends, in many-th parts of the field's twice."""
    part = quotient(field_twice(field), (many, 1))
    return [quotient(twice_of(spot, start, field[after(field, k)]), part) for k, start in enumerate(field)]


def spot_by(field, many, first, second):
    """The spot whose parts at the sides 0 and 1 are these whole numbers."""
    one, middle, other = field[:3]
    # Both sides meet in the middle, and a spot's part at the one grows with its way along the other alone.
    part = quotient(field_twice(field), multiplied((many, 1), twice_of(one, middle, other)))
    back = multiplied((second, 1), part)
    ahead = multiplied((first, 1), part)
    return tuple(
        added(part_on(middle[k], one[k], back), multiplied(ahead, lessened(other[k], middle[k]))) for k in range(2)
    )


def part_rows(field, many):
    """For each side (at, by_first, by_second), and the bottom of all of these.

    A spot's part at the side, over this bottom, is at, more by by_first for each part at side 0 and by by_second
    for each at side 1: so hubs are sought among whole numbers, without a spot for each two counts.
    """
    at = parts_at(field, spot_by(field, many, 0, 0), many)
    by_first = [lessened(part, at[k]) for k, part in enumerate(parts_at(field, spot_by(field, many, 1, 0), many))]
    by_second = [lessened(part, at[k]) for k, part in enumerate(parts_at(field, spot_by(field, many, 0, 1), many))]
    bottom = common_bottom(at + by_first + by_second)
    rows = [tuple(part[0] * (bottom // part[1]) for part in row) for row in zip(at, by_first, by_second)]
    return (rows, bottom)


def counts_by(rows, bottom, first, second):
    """The counts of the hub whose first two these are; None where there is no such hub."""
    tops = [at + first * by_first + second * by_second for at, by_first, by_second in rows]
    # Below nought lies what is out of the field.
    if any(top < 0 or top % bottom != 0 for top in tops):
        return None
    return [top // bottom for top in tops]


def hub_of(field, many):
    """The hub (spot, counts) for many whose counts are the first, None where there is none; else NoField, NoNumber."""
    look_field(field)
    if not is_whole(many) or not 1 <= many <= MOST_OF_HUB:
        raise NoNumber("a whole number from 1 to 24 is asked for")
    rows, bottom = part_rows(field, many)
    for first in range(many + 1):
        for second in range(many - first + 1):
            counts = counts_by(rows, bottom, first, second)
            if counts is not None:
                return (spot_by(field, many, first, second), counts)
    return None


def are_counts(thing):
    """Whether anything is a list of whole numbers from 0 on that come to what a hub may be for."""
    if not isinstance(thing, list) or not all(is_whole(count) and count >= 0 for count in thing):
        return False
    return 1 <= sum(thing) <= MOST_OF_HUB


def has_counts(field, spot, counts):
    """Whether a spot is a hub of the field with these counts."""
    if not is_spot(spot) or not are_counts(counts):
        return False
    return parts_at(field, spot, sum(counts)) == [(count, 1) for count in counts]


def hub_cut(field, spot, counts):
    """The field cut by a hub, in as many pieces at each side as its count; else NoField, NoWay."""
    look_field(field)
    if not has_counts(field, spot, counts):
        raise NoWay("a hub of the field and its counts are asked for")
    pieces = []
    for k, count in enumerate(counts):
        if count > 0:
            pieces.extend([(start, end, spot) for start, end in even_ways(field[k], field[after(field, k)], count)])
    return pieces
