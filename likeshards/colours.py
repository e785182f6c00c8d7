"""Frames, the numbers of a spot in one, and its colour by a prime."""

from likeshards.errors import NoFrame
from likeshards.fracs import look_prime, power_in, quotient
from likeshards.spots import are_three, turn_of, twice_of


def look_frame(frame):
    """Nothing for a frame; else NoFrame."""
    if not are_three(frame) or turn_of(frame[0], frame[1], frame[2]) == 0:
        raise NoFrame("three spots that are not on a line are asked for")


def numbers_in(frame, spot):
    """The numbers of a spot in what is known to be a frame."""
    origin, one, other = frame
    whole = twice_of(origin, one, other)
    return (quotient(twice_of(origin, spot, other), whole), quotient(twice_of(origin, one, spot), whole))


def is_above(one, other):
    """Whether the one power is above the other; that of nought, None, is above every number."""
    if other is None:
        return False
    return one is None or one > other


def colour_of(u, v, prime):
    """The colour of two numbers by a prime, 0, 1 or 2; else NoPrime."""
    in_u = power_in(u, prime)
    in_v = power_in(v, prime)
    if is_above(in_u, 0) and is_above(in_v, 0):
        return 0
    if is_above(in_u, in_v):
        return 2
    return 1


def colour_in(frame, prime, spot):
    """The colour of a spot in what is known to be a frame, by a prime."""
    u, v = numbers_in(frame, spot)
    return colour_of(u, v, prime)


def in_frame(frame, spot):
    """The numbers u and v of a spot in a frame; else NoFrame."""
    look_frame(frame)
    return numbers_in(frame, spot)


def colour_by(frame, prime, spot):
    """The colour of a spot in a frame by a prime, 0, 1 or 2; else NoFrame, NoPrime."""
    look_frame(frame)
    look_prime(prime)
    return colour_in(frame, prime, spot)
