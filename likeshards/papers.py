"""Papers: three corners of a field and a prime, which bar numbers of like pieces and rows of areas."""

from likeshards.colours import numbers_in
from likeshards.doors import odd_among, odd_in
from likeshards.errors import NoAreas, NoNumber, NoPaper
from likeshards.fields import field_twice, is_corner_number, look_field
from likeshards.fracs import PRIMES, is_frac, is_prime, is_whole, multiplied, power_in, quotient, times_in
from likeshards.spots import twice_of

MOST_AREAS = 30


def is_paper(field, paper):
    """Whether anything is a paper of what is known to be a field."""
    if not isinstance(paper, tuple) or len(paper) != 4:
        return False
    i, j, k, prime = paper
    if not all(is_corner_number(field, number) for number in (i, j, k)):
        return False
    return i != j and i != k and j != k and is_prime(prime)


def look_paper(field, paper):
    """Nothing for a paper of a field; else NoField, or NoPaper of anything."""
    look_field(field)
    if not is_paper(field, paper):
        raise NoPaper("three unlike numbers of the field's corners and a prime are asked for")


def frame_of(field, paper):
    """The frame of a paper."""
    return (field[paper[0]], field[paper[1]], field[paper[2]])


def twice_over(twice, frame):
    """Twice an area over the frame's twice."""
    return quotient(twice, twice_of(frame[0], frame[1], frame[2]))


def is_odd_row(row):
    """Whether a row has an odd number of things."""
    return len(row) % 2 == 1


def has_bar(field, paper):
    """Whether a paper's odd sides are odd in number."""
    return is_odd_row(odd_in(field, frame_of(field, paper), paper[3]))


def odd_of(field, paper):
    """The numbers of a paper's odd sides, rising; else NoField, NoPaper."""
    look_paper(field, paper)
    return odd_in(field, frame_of(field, paper), paper[3])


def bar_of(field, paper):
    """The bar of a paper, None where it has none; else NoField, NoPaper."""
    look_paper(field, paper)
    if not has_bar(field, paper):
        return None
    return max(0, power_in(twice_over(field_twice(field), frame_of(field, paper)), paper[3]))


def bars_many(field, paper, many):
    """Whether a paper bars a number of like pieces; else NoField, NoPaper, NoNumber."""
    bar = bar_of(field, paper)
    if not is_whole(many) or many < 1:
        raise NoNumber("a whole number from 1 on is asked for")
    return bar is not None and bar > times_in(many, paper[3])


def is_row(thing):
    """Whether anything is a list of one to thirty fractions above 0."""
    if not isinstance(thing, list) or not 1 <= len(thing) <= MOST_AREAS:
        return False
    return all(is_frac(area) and area[0] > 0 for area in thing)


def bars_row(field, paper, row):
    """Whether a paper bars a row of areas; else NoField, NoPaper, NoAreas."""
    look_paper(field, paper)
    if not is_row(row):
        raise NoAreas("a list of one to thirty fractions above 0 is asked for")
    if not has_bar(field, paper):
        return False
    frame = frame_of(field, paper)
    return all(power_in(twice_over(multiplied((2, 1), area), frame), paper[3]) > 0 for area in row)


def all_threes(many):
    """All tuples of three unlike numbers below many."""
    threes = [(i, j, k) for i in range(many) for j in range(many) for k in range(many)]
    return [three for three in threes if len(set(three)) == 3]


def better_bars(top, best):
    """By each prime that divides the top its power there, where that is above the best bar so far."""
    powers = {prime: times_in(top, prime) for prime in PRIMES if top % prime == 0}
    return {prime: powers[prime] for prime in powers if prime not in best or powers[prime] > best[prime][0]}


def barring(field, frame, primes):
    """Those of the primes by which a frame has an odd number of odd sides."""
    if not primes:
        return []
    # A corner's numbers are the same by every prime, so they are reckoned once.
    numbers = [numbers_in(frame, corner) for corner in field]
    return [prime for prime in primes if is_odd_row(odd_among(numbers, prime))]


def best_papers(field):
    """By each prime by which some paper has a bar above 0, the greatest such bar and a paper that has it."""
    twice = field_twice(field)
    best = {}
    for three in all_threes(len(field)):
        frame = frame_of(field, three)
        bars = better_bars(twice_over(twice, frame)[0], best)
        for prime in barring(field, frame, list(bars)):
            best[prime] = (bars[prime], (*three, prime))
    return best


def must_of(field):
    """A number by which that of the like pieces of any cutting can be divided, and papers for it; else NoField."""
    best = best_papers(field)
    number = 1
    papers = []
    for prime in sorted(best):
        bar, paper = best[prime]
        papers.append(paper)
        for times in range(bar):
            number *= prime
    return (number, papers)
