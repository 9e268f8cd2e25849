"""Rows between two walls, kept by even rules: what steps leave of them, and what is lost, for all n.

A row of n cells between walls is a round row of 2 * n + 2 or 2 * n values that is the other way round the same, or the
same but for its sign. Modulo a prime p an even rule is a polynomial F in y = x + 1 / x, and such rows are what a
polynomial in y leaves: S(n) between nought walls and (y - 2) * S(n - 1) between mirrors, where

    S(n) = (x ** (2 * n + 2) - 1) / ((x ** 2 - 1) * x ** n)

So a prime factor of F counts as often as S has it, which is told by the orders of the prime factors of the rule as a
polynomial in x: each of F is two of these, or one with twice as many powers, or (x - 1) ** 2 or (x + 1) ** 2.
"""

from math import gcd

from nearadds.circles import share_of
from nearadds.errors import InvalidProgram, InvalidRule, InvalidWalls
from nearadds.forms import renewed
from nearadds.rings import least_numbers, need_many, orders_by
from nearadds.rounds import round_after
from nearadds.rules import need_program, need_round, need_rule, need_same, primes_of, round_step

NOUGHT = "nought"
MIRROR = "mirror"


def is_even(terms):
    """Whether terms have with each offset the same factor at its negative."""
    return terms == tuple([(-offset, factor) for offset, factor in terms[::-1]])


def need_even_rule(rule):
    """Refuses any object that is no even rule."""
    need_rule(rule)
    if not is_even(rule[1]):
        raise InvalidRule(renewed(rule))


def need_even_program(program):
    """Refuses any object that is no program, or one with a rule that is not even."""
    need_program(program)
    if not all([is_even(terms) for terms, _ in program[1]]):
        raise InvalidProgram(renewed(program))


def need_kind(kind):
    """Refuses any object that is no kind of walls."""
    if not isinstance(kind, str) or kind not in (NOUGHT, MIRROR):
        raise InvalidWalls(renewed(kind))


def unfolded(row, kind):
    """The round row as which a row between walls is meant."""
    need_round(row)
    need_kind(kind)
    modulus, values = row
    if kind == MIRROR:
        return modulus, values + values[::-1]
    return modulus, values + (0,) + tuple([-value % modulus for value in values[::-1]]) + (0,)


def walled_step(rule, row, kind):
    """The row between walls behind a step."""
    need_even_rule(rule)
    need_round(row)
    need_same(rule, row)
    return row[0], round_step(rule, unfolded(row, kind))[1][:len(row[1])]


def walled_after(program, row, kind):
    """The row between walls behind a program."""
    need_even_program(program)
    need_round(row)
    need_same(program, row)
    return row[0], round_after(program, unfolded(row, kind))[1][:len(row[1])]


def walled_losing(rule, kind):
    """The least numbers of the n, or of the n + 1 between nought walls, at which a step loses something."""
    need_even_rule(rule)
    need_kind(kind)
    numbers = []
    for prime in primes_of(rule[0]):
        told = orders_by(rule, prime)
        numbers += [1] if told is None else [losing_number(turns, kind, prime) for turns, _, _ in told]
    return least_numbers(numbers)


def losing_number(turns, kind, prime):
    """The number of whose multiples a prime factor of this order counts."""
    if turns > 2:
        return turns // gcd(turns, 2)
    return 1 if turns == 1 and kind == MIRROR else prime


def often_within(turns, kind, n, prime):
    """How often the prime factor of F that comes of one of this order counts between walls with n cells."""
    around = 2 * n if kind == MIRROR else 2 * n + 2
    if around % turns:
        return 0
    share = share_of(around, prime)
    if turns > 2:
        return share
    # x ** 2 - 1 takes off one prime factor, or two modulo 2, and the other ones are two for each of F.
    often = (share - 1) // 2
    return often + 1 if turns == 1 and kind == MIRROR else often


def counted(rule, kind, n, prime):
    """The list of tuples (power, times, often), one for each prime factor of a rule that counts; None if it is nought.

    The times are those in F; the power is twice that of its prime factors there, which are shared by two or not.
    """
    told = orders_by(rule, prime)
    if told is None:
        return None
    found = []
    for turns, power, times in told:
        often = often_within(turns, kind, n, prime)
        if often:
            found.append((power, times, often) if turns > 2 else (2, times // 2, often))
    return found


def need_told(rule, kind, n):
    """Refuses what does not tell an even rule and n cells between walls."""
    need_even_rule(rule)
    need_kind(kind)
    need_many(n)


def walled_noughts(rule, kind, n):
    """The dimensions, prime by prime, of the rows of n cells between walls of which a step leaves 0 alone."""
    need_told(rule, kind, n)
    found = []
    for prime in primes_of(rule[0]):
        told = counted(rule, kind, n, prime)
        dim = n if told is None else sum([power * min(times, often) for power, times, often in told]) // 2
        found.append((prime, dim))
    return found


def walled_tail(rule, kind, n):
    """The least number of steps from 0 on behind which all rows of n cells between walls come round."""
    need_told(rule, kind, n)
    tails = [0]
    for prime in primes_of(rule[0]):
        told = counted(rule, kind, n, prime)
        tails += [1] if told is None else [-(-often // times) for _, times, often in told]
    return max(tails)
