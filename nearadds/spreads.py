"""Spreads: what programs leave of the row with the one cell 1 at the place 0, modulo a prime.

A spread is a tuple (first, parts): first is the least place with something other than 0, and from there on the values
are the coefficients of the product of poly to the power times over all parts (poly, times); the first and the last
coefficient of each poly are not 0. It is None where the program makes all 0.
"""

from nearadds.blocks import clusters, levels_of, value_at, window
from nearadds.factors import coefficients
from nearadds.lanes import values_of
from nearadds.rules import by_prime, one_for, primes_of


def by_places(terms):
    """The list of what terms leave of the one cell 1, from the least place on: an offset d leads to the place -d."""
    return coefficients(terms)[::-1]


def spread(program, prime):
    """The spread of a program modulo a prime of its modulus."""
    first = 0
    parts = []
    for terms, times in program[1]:
        if times > 0:
            left = by_prime((program[0], terms), prime)
            if not left:
                return None
            first -= left[-1][0] * times
            parts.append((by_places(left), times))
    return first, parts


def spreads(program):
    """The list, for each prime, of the spread of a program."""
    return [spread(program, prime) for prime in primes_of(program[0])]


def last_of(told):
    """The greatest place with something other than 0 of a spread."""
    return told[0] + sum([(len(poly) - 1) * times for poly, times in told[1]])


def values_left(program, cells, place, count):
    """The list of what a program leaves, by its modulus, of a finite row's cells, from a place on, so many."""
    modulus = program[0]
    sums = [0] * count
    for prime in primes_of(modulus):
        unit = one_for(prime, modulus)
        values = values_modulo(spread(program, prime), cells, place, count, prime)
        sums = [(total + unit * value) % modulus for total, value in zip(sums, values)]
    return sums


def values_modulo(told, cells, place, count, prime):
    """The same modulo a prime, by the spread there."""
    if told is None:
        return [0] * count
    lanes, levels = levels_of(told[1], prime, 1)
    if count == 1:
        return [value_at(lanes, levels, cells, place - told[0])]
    sums = [0] * count
    for at, text in clusters(cells, prime):
        # The values at the places asked for, of cells of the cluster one behind the other, lie in one window.
        values = window(lanes, levels, place - at - len(text) + 1 - told[0], count + len(text) - 1)
        for k, value in enumerate(values_of(text[::-1])):
            if value:
                sums = [(total + value * much) % prime for total, much in zip(sums, values[k:])]
    return sums
