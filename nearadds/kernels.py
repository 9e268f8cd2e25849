"""Endless rows that die out: how many there are, what stands far on in one, and how long it takes."""

from nearadds.errors import InvalidCells, InvalidNumber, InvalidRule
from nearadds.factors import coefficients, common, factored
from nearadds.forms import is_remainders, renewed
from nearadds.polys import divided, product_of
from nearadds.recurring import row_remainder, turns_for, turns_of
from nearadds.rules import MOST_TIMES, need_round, need_rule, need_same, primes_of, round_step

MOST_FREE = 40


def need_prime_rule(rule):
    """Refuses any object that is no rule, or a rule whose modulus is no prime or that is nought."""
    need_rule(rule)
    if len(primes_of(rule[0])) > 1 or not rule[1]:
        raise InvalidRule(renewed(rule))


def width_of(rule):
    """The greatest offset less the least one."""
    return rule[1][-1][0] - rule[1][0][0]


def free_cells(rule, times):
    """The number of cells side by side that may be any and tell a whole endless row that dies out in so many steps."""
    need_prime_rule(rule)
    if not 0 <= times <= MOST_TIMES:
        raise InvalidNumber(times)
    return times * width_of(rule)


def need_dying(rule, times, values):
    """Refuses what does not tell an endless row by its first values."""
    need_prime_rule(rule)
    if not 1 <= times * width_of(rule) <= MOST_FREE:
        raise InvalidNumber(times)
    if not is_remainders(values, times * width_of(rule), rule[0]):
        raise InvalidCells(renewed(values))


def parts_done(rule, times):
    """The prime factors of a rule done so many times, with their times."""
    return [(part, own * times) for part, own in factored(rule)[0][3]]


def dying_cell(rule, times, values, place):
    """The value at a place of the endless row that dies out in so many steps and has these values from 0 on."""
    need_dying(rule, times, values)
    prime = rule[0]
    poly = product_of([(coefficients(rule[1]), times)], prime)
    rest = row_remainder([(place, 1)], poly, turns_for(width_of(rule), times, prime), prime)
    return sum([value * much for value, much in zip(values, rest)]) % prime


def dying_round(rule, times, values):
    """The least number from 1 on by which this row may be moved and is the same."""
    need_dying(rule, times, values)
    return turns_of(least_parts(parts_done(rule, times), values, rule[0]), rule[0])


def least_parts(parts, values, prime):
    """As few of such parts as already make a row, told by its first values, all 0."""
    whole = product_of(parts, prime)
    row = told_on(values, whole, prime)
    found = []
    for part, times in parts:
        needed = times
        while needed:
            less = divided(whole, part, prime)[0]
            if not makes_nought(less, row, len(values), prime):
                break
            whole = less
            needed -= 1
        if needed:
            found.append((part, needed))
    return found


def told_on(values, poly, prime):
    """The first values of such an endless row and as many more; the last coefficient of the polynomial is 1."""
    row = list(values)
    for at in range(len(values)):
        row.append(-sum([row[at + k] * value for k, value in enumerate(poly[:-1])]) % prime)
    return row


def makes_nought(poly, row, many, prime):
    """Whether the sums of a row that a polynomial tells are 0 at so many places from 0 on."""
    return not any([sum([row[at + k] * value for k, value in enumerate(poly)]) % prime for at in range(many)])


def dies_in(rule, row):
    """The least number of steps behind which all cells of a round row are 0; None if there is none."""
    need_prime_rule(rule)
    need_round(row)
    need_same(rule, row)
    # Where a step more makes further rows all 0, it makes one more value free: so as many steps as values are enough.
    for times in range(len(row[1]) + 1):
        if not any(row[1]):
            return times
        row = round_step(rule, row)
    return None


def both_die(one, other):
    """The number of free cells of the endless rows that a step of either of two rules makes all 0."""
    need_prime_rule(one)
    need_prime_rule(other)
    need_same(one, other)
    return len(common(one, other)[0]) - 1
