"""Whether a field can be cut to a number of like pieces, as far as fans, hubs and papers tell."""

from likeshards.errors import NoNumber
from likeshards.fans import shares_of
from likeshards.fields import look_field
from likeshards.fracs import is_frac, is_whole
from likeshards.hubs import MOST_OF_HUB, hub_of
from likeshards.papers import bars_many, must_of

MOST_MANY = 10 ** 9
NOUGHT = (0, 1)
ONE = (1, 1)


def fan_for(field, many):
    """The first corner by whose fan's number many can be divided; None where there is none."""
    for c in range(len(field)):
        if many % sum(shares_of(field, c)) == 0:
            return c
    return None


def hub_for(field, many):
    """What hub_of tells, None where many is too great for a hub."""
    if many > MOST_OF_HUB:
        return None
    return hub_of(field, many)


def told_many(field, many):
    """A fan or a hub for many like pieces, or a paper that bars them, or open; else NoField, NoNumber."""
    look_field(field)
    if not is_whole(many) or not 1 <= many <= MOST_MANY:
        raise NoNumber("a whole number from 1 to 10 ** 9 is asked for")
    c = fan_for(field, many)
    if c is not None:
        return ("fan", c)
    hub = hub_for(field, many)
    if hub is not None:
        return ("hub", *hub)
    papers = [paper for paper in must_of(field)[1] if bars_many(field, paper, many)]
    if papers:
        return ("never", papers[0])
    return ("open",)


def trapeze_of(part):
    """The field (0, 0), (1, 0), (part, 1), (0, 1) of a fraction above 0; else NoNumber."""
    if not is_frac(part) or part[0] <= 0:
        raise NoNumber("a fraction above 0 is asked for")
    return ((NOUGHT, NOUGHT), (ONE, NOUGHT), (part, ONE), (NOUGHT, ONE))
