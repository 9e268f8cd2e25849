"""Rings of n cells: what a rule loses on them, what comes round, and after how long, for all n.

Modulo a prime p a round row with n values is a polynomial where x ** n is 1. Z1 tells how often x ** n - 1 has a prime
factor: so what a rule does on all rings is told by the orders of its prime factors.
"""

from nearadds.circles import share_of
from nearadds.errors import InvalidNumber
from nearadds.factors import factored_by, order
from nearadds.periods import both_lengths, lengths_modulo
from nearadds.rules import by_prime, need_rule, need_rules, primes_of


def need_many(n):
    """Refuses an integer that is no number of cells."""
    if n < 1:
        raise InvalidNumber(n)


def orders_by(rule, prime):
    """The list of tuples (order, last power, times) of the prime factors of a rule; None if it is nought."""
    told = factored_by(rule, prime)
    if len(told) == 1:
        return None
    return [(order(prime, part), len(part) - 1, times) for part, times in told[3]]


def least_numbers(numbers):
    """The ascending list of those of some numbers that are no multiples of another one."""
    found = []
    for number in sorted(numbers):
        if all([number % less for less in found]):
            found.append(number)
    return found


def losing(rule):
    """The least numbers of the n on whose rings a rule loses."""
    need_rule(rule)
    numbers = []
    for prime in primes_of(rule[0]):
        told = orders_by(rule, prime)
        numbers += [1] if told is None else [turns for turns, _, _ in told]
    return least_numbers(numbers)


def loses(rule, n):
    """Whether a rule loses on the ring of n cells."""
    need_rule(rule)
    need_many(n)
    return any([n % number == 0 for number in losing(rule)])


def nought_dim(told, n, prime):
    """The dimension, by what orders_by tells, of the round rows with n values of which a step leaves 0 alone."""
    if told is None:
        return n
    share = share_of(n, prime)
    return sum([power * min(times, share) for turns, power, times in told if n % turns == 0])


def nought_dims(rule, n):
    """The dimensions, prime by prime, of the round rows with n values of which a step leaves 0 alone."""
    need_rule(rule)
    need_many(n)
    return [(prime, nought_dim(orders_by(rule, prime), n, prime)) for prime in primes_of(rule[0])]


def coming_dims(rule, n):
    """The dimensions, prime by prime, of the round rows with n values that come round."""
    need_rule(rule)
    need_many(n)
    return [(prime, n - lost_dim(orders_by(rule, prime), n, prime)) for prime in primes_of(rule[0])]


def lost_dim(told, n, prime):
    """The dimension of the round rows with n values of which some number of steps leaves 0 alone."""
    if told is None:
        return n
    share = share_of(n, prime)
    return sum([power * share for turns, power, _ in told if n % turns == 0])


def longest_tail(rule, n):
    """The least number of steps from 0 on behind which all round rows with n values come round."""
    need_rule(rule)
    need_many(n)
    tails = [0]
    for prime in primes_of(rule[0]):
        told, share = orders_by(rule, prime), share_of(n, prime)
        tails += [1] if told is None else [-(-share // times) for turns, _, times in told if n % turns == 0]
    return max(tails)


def first_unlike_ring(one, other):
    """The least n on whose rings two rules have unlike nought_dims; None if there is none."""
    need_rules(one, other)
    found = []
    for prime in primes_of(one[0]):
        n = first_unlike_modulo(orders_by(one, prime), orders_by(other, prime), prime)
        if n is not None:
            found.append(n)
    return min(found, default=None)


def first_unlike_modulo(told, further, prime):
    """The same modulo a prime, by what orders_by tells of the rules."""
    if told is None and further is None:
        return None
    if told is None or further is None:
        n = 1
        # A rule that is not nought has at most as many such dimensions as it is wide.
        while nought_dim(told, n, prime) == nought_dim(further, n, prime):
            n += 1
        return n
    found = []
    share = 1
    most = max([times for _, _, times in told + further], default=1)
    # A greater share than the greatest times changes nothing more.
    while share < most * prime:
        found += [turns * share for turns in unlike_orders(told, further, share)]
        share = share * prime
    return min(found, default=None)


def unlike_orders(told, further, share):
    """The list of the orders whose prime factors make unlike sums in two rules, if n has this share of the prime.

    Of the n with this share the rules are first unlike at the least one of these times the share: there all other
    orders that divide n make the same sums in both.
    """
    sums = {}
    for turns, power, times in told:
        sums[turns] = sums.get(turns, 0) + power * min(times, share)
    for turns, power, times in further:
        sums[turns] = sums.get(turns, 0) - power * min(times, share)
    return [turns for turns in sums if sums[turns]]


def ring_round(rule, n):
    """The least number of steps from 1 on that leaves all round rows that come round as they were."""
    # The rows that take longest modulo each prime make up one whose length all others divide.
    return rounds_of(rule, n)[-1][0]


def rounds_of(rule, n):
    """The ascending list of tuples (length, number): how many round rows are the same first behind so many steps."""
    need_rule(rule)
    need_many(n)
    numbers = {1: 1}
    for prime in primes_of(rule[0]):
        numbers = both_lengths(numbers, lengths_modulo(by_prime(rule, prime), n, prime))
    return sorted([(length, number) for length, number in numbers.items()])
