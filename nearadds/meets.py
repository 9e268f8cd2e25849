"""Powers of two rules that fall together, and rules whose powers a rule is."""

from math import gcd, lcm

from nearadds.errors import InvalidNumber
from nearadds.factors import factored, of_factors
from nearadds.polys import power_by
from nearadds.rules import MOST_POWER, MOST_TIMES, need_rule, need_rules

# The factor in front comes round in a number of times that divides the prime less 1. For no modulus is the least
# common multiple of these numbers above 12.
MOST_ROUND = 12


def pairs_by(told, further):
    """The list of the pairs (u, v) that a times u and b times v must agree on, by two tuples of factored.

    None if no a and b from 1 on are such. Pairs (0, 0) are left out.
    """
    if len(told) != len(further):
        return None
    if len(told) == 1:
        return []
    times, others = dict(told[3]), dict(further[3])
    pairs = [(told[1], further[1])]
    for part in sorted(set(list(times) + list(others))):
        pairs.append((times.get(part, 0), others.get(part, 0)))
    return [pair for pair in pairs if pair != (0, 0)]


def all_pairs(one, other):
    """The list of the pairs of pairs_by for all primes of two lists of factored; None if there are no such a and b."""
    found = []
    for told, further in zip(one, other):
        pairs = pairs_by(told, further)
        if pairs is None:
            return None
        found += pairs
    return found


def least_ratio(pairs):
    """The least a and b from 1 on with which a times u is b times v for all pairs (u, v); None if there are none."""
    first, second = pairs[0]
    if first * second <= 0:
        return None
    share = gcd(first, second)
    a, b = abs(second) // share, abs(first) // share
    return (a, b) if all([a * u == b * v for u, v in pairs]) else None


def front_meets(one, other, a, b):
    """Whether the factors in front agree modulo all primes, if the one rule is done a times, the other one b times."""
    agree = True
    for told, further in zip(one, other):
        if len(told) > 1:
            prime = told[0]
            agree = agree and power_by(told[2], a, prime) == power_by(further[2], b, prime)
    return agree


def meets(one, other):
    """The least tuple (a, b) from 1 on such that one rule done a times is another one done b times; None if none."""
    need_rules(one, other)
    told, further = factored(one), factored(other)
    pairs = all_pairs(told, further)
    if pairs is None:
        return None
    numbers = range(1, MOST_ROUND + 1)
    if pairs:
        ratio = least_ratio(pairs)
        if ratio is None:
            return None
        tried = [(ratio[0] * number, ratio[1] * number) for number in numbers]
    else:
        tried = [(a, b) for a in numbers for b in numbers]
    return [pair for pair in tried if front_meets(told, further, pair[0], pair[1])][0]


def meets_at(one, other, a, b):
    """Whether one rule done a times is another one done b times."""
    need_rules(one, other)
    for number in (a, b):
        if not 0 <= number <= MOST_TIMES:
            raise InvalidNumber(number)
    return all([done(told, a) == done(further, b) for told, further in zip(factored(one), factored(other))])


def done(told, times):
    """The tuple of factored of a rule done so many times, by that of the rule."""
    if times == 0:
        return told[0], 0, 1, ()
    if len(told) == 1:
        return told
    prime, offset, factor, parts = told
    return prime, offset * times, power_by(factor, times, prime), tuple([(part, own * times) for part, own in parts])


def meets_often(one, other):
    """Whether all tuples that meets may tell are multiples of the least one; None if there is none."""
    if meets(one, other) is None:
        return None
    # Where both but multiply cells, a is as good with b as with b and a round of the factors more.
    return "multiples" if all_pairs(factored(one), factored(other)) else "further"


def root(rule, times):
    """A rule that, done so many times, is this one; None if there is none."""
    need_rule(rule)
    if not 1 <= times <= MOST_POWER:
        raise InvalidNumber(times)
    parts = [root_by(told, times) for told in factored(rule)]
    if any([part is None for part in parts]):
        return None
    return of_factors(rule[0], parts)


def root_by(told, times):
    """The tuple of factored of such a rule modulo a prime; None if there is none."""
    if len(told) == 1:
        return told
    prime, offset, factor, parts = told
    fronts = [front for front in range(1, prime) if power_by(front, times, prime) == factor]
    if not fronts or offset % times or any([own % times for _, own in parts]):
        return None
    return prime, offset // times, fronts[0], tuple([(part, own // times) for part, own in parts])


def greatest_root(rule):
    """The greatest number of times for which there is such a rule; "endless" if there is no greatest one."""
    need_rule(rule)
    told = factored(rule)
    share = 0
    for entry in told:
        if len(entry) > 1:
            share = gcd(share, entry[1])
            for _, own in entry[3]:
                share = gcd(share, own)
    if share == 0:
        return "endless"
    numbers = [number for number in range(1, share + 1) if all([root_by(entry, number) is not None for entry in told])]
    return numbers[-1]


def comes_round(rule):
    """The least number of times from 1 on that leave all endless rows as they were; None if there is none."""
    need_rule(rule)
    turns = 1
    for told in factored(rule):
        if len(told) == 1 or told[1] != 0 or told[3]:
            return None
        turns = lcm(turns, turn_of(told[2], told[0]))
    return turns


def turn_of(factor, prime):
    """The least number from 1 on to which a power of a remainder, not 0, is 1 modulo a prime."""
    return [number for number in range(1, prime) if power_by(factor, number, prime) == 1][0]
