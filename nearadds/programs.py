"""Programs: whether two do the same to all rows, and what they leave of one cell."""

from nearadds.errors import InvalidNumber
from nearadds.partings import parting_place
from nearadds.polys import inverse, power_by
from nearadds.rules import MOST_TIMES, by_prime, need_program, need_programs, primes_of, put_together
from nearadds.spreads import last_of, spreads, values_left

ONE_CELL = ((0, 1),)
MOST_WIDTH = 199


def alike(one, other):
    """Whether two programs leave the same of all endless rows."""
    need_programs(one, other)
    return not parting_places(one, other)


def parting_places(one, other):
    """The list of the places at which two programs part modulo those primes at which they do."""
    places = [parting_place(one, other, prime) for prime in primes_of(one[0])]
    return [place for place in places if place is not None]


def parting(one, other):
    """The least place at which two programs leave unlike values of the one cell 1, and these; None if there is none."""
    need_programs(one, other)
    places = parting_places(one, other)
    if not places:
        return None
    place = min(places)
    return place, values_left(one, ONE_CELL, place, 1)[0], values_left(other, ONE_CELL, place, 1)[0]


def span(program):
    """The least and the greatest place at which a program leaves something other than 0 of the one cell 1."""
    need_program(program)
    told = [part for part in spreads(program) if part is not None]
    if not told:
        return None
    return min([part[0] for part in told]), max([last_of(part) for part in told])


def total(program):
    """The sum of all that a program leaves of the one cell 1, by the modulus."""
    need_program(program)
    product = 1
    for terms, times in program[1]:
        factors = sum([factor for _, factor in terms])
        product = product * power_by(factors, times, program[0]) % program[0]
    return product


def joined(one, other):
    """The program with the steps of the one and behind them those of the other."""
    need_programs(one, other)
    return one[0], one[1] + other[1]


def as_rule(program):
    """The rule of which one step does the same as a program; None if it would be wider than is told."""
    ends = span(program)
    if ends is None:
        return program[0], ()
    first, last = ends
    if last - first > MOST_WIDTH:
        return None
    values = values_left(program, ONE_CELL, first, last - first + 1)
    terms = [(-first - k, value) for k, value in enumerate(values) if value]
    return program[0], tuple(terms[::-1])


def power_of(program, times):
    """The program with each of its times multiplied."""
    need_program(program)
    if times < 0 or any([times * often > MOST_TIMES for _, often in program[1]]):
        raise InvalidNumber(times)
    return program[0], tuple([(terms, times * often) for terms, often in program[1]])


def undone(program):
    """The program that leads back from what the steps of a program leave; None if there is none."""
    need_program(program)
    steps = []
    for terms, times in program[1]:
        if times > 0:
            back = led_back(program[0], terms)
            if back is None:
                return None
            steps.append((back, times))
    return program[0], tuple(steps)


def led_back(modulus, terms):
    """The terms that lead back from what a rule leaves; None unless it is one term modulo each prime."""
    parts = []
    for prime in primes_of(modulus):
        left = by_prime((modulus, terms), prime)
        if len(left) != 1:
            return None
        offset, factor = left[0]
        parts.append(((-offset, inverse(factor, prime)),))
    return put_together(modulus, parts)[1]
