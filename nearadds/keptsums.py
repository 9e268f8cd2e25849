"""Weights that a rule multiplies by a factor, so that sums of weights times values are kept or known ahead.

Weights are multiplied by a factor exactly if the rule less the factor leaves nothing of them, read the other way
round: for each place the sum of its terms' factors times the weights at the place less the offset is 0.
"""

from math import lcm

from nearadds.backward import remainder
from nearadds.circles import common_with, whole_of
from nearadds.equations import echelon
from nearadds.errors import InvalidCells, InvalidNumber, InvalidRule
from nearadds.factors import coefficients
from nearadds.forms import is_remainders, renewed
from nearadds.kernels import least_parts, width_of
from nearadds.polys import divided, monic
from nearadds.recurring import turns_of
from nearadds.rings import losing, need_many, nought_dims
from nearadds.rules import by_prime, left_of, need_row, need_rule, need_same, one_for, primes_of, sums_of
from nearadds.splitting import prime_factors
from nearadds.spreads import by_places


def need_factor(rule, factor):
    """Refuses an integer that is no factor for a rule."""
    if not 0 <= factor < rule[0]:
        raise InvalidNumber(factor)


def lessened_by(rule, factor):
    """The rule less a factor."""
    need_rule(rule)
    need_factor(rule, factor)
    return rule[0], left_of(sums_of(rule[1], ((0, -factor),)), rule[0])


def ends_of(terms):
    """The tuple of the least and the greatest offset of terms."""
    return terms[0][0], terms[-1][0]


def ends_lead_on(rule):
    """Whether the ends of a rule are unlike, and are its ends modulo each prime."""
    parts = [by_prime(rule, prime) for prime in primes_of(rule[0])]
    if not all(parts):
        return False
    ends = ends_of(rule[1])
    return ends[0] < ends[1] and all([ends_of(part) == ends for part in parts])


def told_by_values(rule, factor):
    """The rule less a factor, refused if its first weights do not tell all of them."""
    less = lessened_by(rule, factor)
    if not ends_lead_on(less):
        raise InvalidRule(renewed(rule))
    return less


def free_weights(rule, factor):
    """The number of places side by side whose weights may be any and tell all that are multiplied by a factor."""
    return width_of(told_by_values(rule, factor))


def need_weights(rule, factor, values):
    """The rule less a factor; what does not tell weights by their first ones is refused."""
    less = told_by_values(rule, factor)
    if not is_remainders(values, width_of(less), rule[0]):
        raise InvalidCells(renewed(values))
    return less


def weight(rule, factor, values, place):
    """The weight at a place of those that are multiplied by a factor and have these values from 0 on."""
    less = need_weights(rule, factor, values)
    return summed(less, values, (rule[0], ((place, 1),)))


def weighted(rule, factor, values, row):
    """The sum, by the modulus, of weight times value over the cells of a finite row."""
    less = need_weights(rule, factor, values)
    need_row(row)
    need_same(rule, row)
    return summed(less, values, row)


def summed(less, values, row):
    """The same, by the rule less the factor."""
    total = 0
    for prime in primes_of(row[0]):
        much = remainder(less, row, prime)
        total += one_for(prime, row[0]) * sum([value * often for value, often in zip(values, much)])
    return total % row[0]


def weights_round(rule, factor, values):
    """The least number from 1 on by which these weights may be moved and are the same."""
    less = need_weights(rule, factor, values)
    turns = 1
    for prime in primes_of(rule[0]):
        parts = prime_factors(monic(by_places(by_prime(less, prime)), prime), prime)
        rests = [value % prime for value in values]
        turns = lcm(turns, turns_of(least_parts(parts, rests, prime), prime))
    return turns


def ring_weights(rule, factor, n):
    """The dimensions, prime by prime, of the weights on the ring of n cells that are multiplied by a factor."""
    return nought_dims(lessened_by(rule, factor), n)


def weight_rings(rule, factor):
    """The least numbers of the n on whose rings there are others than 0 alone."""
    return losing(lessened_by(rule, factor))


def all_round_weights(rule, factor, n):
    """The list, in reduced form, of lists of n weights of which all such weights are sums of multiples."""
    need_rule(rule)
    prime = rule[0]
    if len(primes_of(prime)) > 1:
        raise InvalidRule(renewed(rule))
    less = lessened_by(rule, factor)
    need_many(n)
    # As polynomials, where x ** n is 1, weights are the multiples of what the rule less the factor makes nought.
    poly = coefficients(less[1])
    least = divided(whole_of(n, prime), common_with(poly, n, prime), prime)[0]
    many = n + 1 - len(least)
    rows = [[0] * k + least + [0] * (many - 1 - k) for k in range(many)]
    return echelon(rows, n, prime)[1]
