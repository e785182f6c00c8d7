"""Spots: tuples (x, y) of two fractions, x to the right, y upwards."""

from likeshards.fracs import added, is_below, is_frac, lessened, multiplied


def is_spot(thing):
    """Whether anything is a spot."""
    if not isinstance(thing, tuple) or len(thing) != 2:
        return False
    return is_frac(thing[0]) and is_frac(thing[1])


def are_three(thing):
    """Whether anything is a tuple of three spots."""
    if not isinstance(thing, tuple) or len(thing) != 3:
        return False
    return all(is_spot(place) for place in thing)


def is_ahead(one, other):
    """Whether the first spot is ahead of the second: by its x, or by its y where the x are alike."""
    if one[0] == other[0]:
        return is_below(one[1], other[1])
    return is_below(one[0], other[0])


def twice_of(one, other, third):
    """Twice the area of three spots, above nought where the third lies to the left."""
    along = multiplied(lessened(other[0], one[0]), lessened(third[1], one[1]))
    across = multiplied(lessened(third[0], one[0]), lessened(other[1], one[1]))
    return lessened(along, across)


def gap(one, other):
    """The first fraction less the second, as a top and a bottom above 0 that need not be in lowest terms."""
    return (one[0] * other[1] - other[0] * one[1], one[1] * other[1])


def turn_of(one, other, third):
    """1 where the third lies to the left of who goes from the first to the second, -1 to the right, else 0."""
    # But the sign is asked for here: to bring great numbers to lowest terms takes far longer than the rest.
    wide, wide_by = gap(other[0], one[0])
    high, high_by = gap(other[1], one[1])
    out, out_by = gap(third[0], one[0])
    up, up_by = gap(third[1], one[1])
    along = wide * up * out_by * high_by
    across = out * high * wide_by * up_by
    if along > across:
        return 1
    if along < across:
        return -1
    return 0


def is_amid(spot, one, other):
    """Whether the spot is on a line with the two others, between them and like neither."""
    if turn_of(one, other, spot) != 0:
        return False
    # Along any line each spot is ahead of those on one side of it, so this order tells what is between.
    if is_ahead(one, spot):
        return is_ahead(spot, other)
    return is_ahead(other, spot) and is_ahead(spot, one)


def part_on(start, end, part):
    """The start and the part times the end less the start, all of them fractions."""
    return added(start, multiplied(part, lessened(end, start)))


def on_way(one, other, part):
    """The spot on the way from the first spot to the second by a part, any fraction."""
    return (part_on(one[0], other[0], part), part_on(one[1], other[1], part))
