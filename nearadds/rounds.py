"""Round rows: what programs leave of them, which rows stood ahead, and when they come again."""

from math import lcm

from nearadds.circles import common_with, done_often, left_around, one_ahead, share_of, stepped, weights_against
from nearadds.factors import divisors_of
from nearadds.forms import is_remainders
from nearadds.rules import by_prime, has_prime, need_program, need_round, need_rule, need_same, one_for, primes_of
from nearadds.spreads import by_places, spread


def need_both(rule, row):
    """Refuses two objects that are not a rule and a round row of one modulus."""
    need_rule(rule)
    need_round(row)
    need_same(rule, row)


def rests_of(row, prime):
    """The list of the values of a round row modulo a prime."""
    return [value % prime for value in row[1]]


def round_of(modulus, parts):
    """The round row that leaves these lists of values modulo the primes of a modulus."""
    sums = [0] * len(parts[0])
    for prime, values in zip(primes_of(modulus), parts):
        unit = one_for(prime, modulus)
        sums = [total + unit * value for total, value in zip(sums, values)]
    return modulus, tuple([total % modulus for total in sums])


def round_after(program, row):
    """The round row that a program leaves of a round row."""
    need_program(program)
    need_round(row)
    need_same(program, row)
    parts = []
    for prime in primes_of(row[0]):
        told, values = spread(program, prime), rests_of(row, prime)
        parts.append([0] * len(values) if told is None else left_around(told, values, prime))
    return round_of(row[0], parts)


def first_place(terms):
    """The least place to which terms lead the one cell 1; 0 without terms."""
    return -terms[-1][0] if terms else 0


def ahead_modulo(rule, values, prime):
    """A list of values of which a step leaves these modulo a prime; None if there is none."""
    terms = by_prime(rule, prime)
    return one_ahead(by_places(terms), first_place(terms), values, prime)


def rounds_ahead(rule, row):
    """Whether one, many or no round row is left as this one by a step, with one of them and how many they are."""
    need_both(rule, row)
    parts, number = [], 1
    for prime in primes_of(row[0]):
        values = ahead_modulo(rule, rests_of(row, prime), prime)
        if values is None:
            return ("none",)
        parts.append(values)
        for _ in common_with(by_places(by_prime(rule, prime)), len(values), prime)[1:]:
            number = number * prime
    found = round_of(row[0], parts)
    return ("one", found) if number == 1 else ("many", found, number)


def round_bar(rule, row):
    """A tuple (prime, weights) that bars any round row from being ahead of this one; None if there is one ahead."""
    need_both(rule, row)
    for prime in primes_of(row[0]):
        weights = weights_against(by_places(by_prime(rule, prime)), rests_of(row, prime), prime)
        if weights is not None:
            return prime, tuple(weights)
    return None


def round_bars(rule, row, value):
    """Whether any object is such a tuple."""
    need_both(rule, row)
    many = len(row[1])
    if not has_prime(value, row[0]) or not is_remainders(value[1], many, value[0]):
        return False
    prime, weights = value
    terms = by_prime(rule, prime)
    for j in range(many):
        if sum([factor * weights[(j - offset) % many] for offset, factor in terms]) % prime:
            return False
    return sum([weight * much for weight, much in zip(weights, row[1])]) % prime != 0


def least_ahead(rule, row):
    """How often, at least, a round row is written so that a row is ahead of it, and one such; None if there is none."""
    need_both(rule, row)
    told = []
    times = 1
    for prime in primes_of(row[0]):
        found = least_modulo(rule, rests_of(row, prime), prime)
        if found is None:
            return None
        told.append(found)
        times = times * (len(found) // len(row[1]))
    many = times * len(row[1])
    return times, round_of(row[0], [values * (many // len(values)) for values in told])


def least_modulo(rule, values, prime):
    """The values of a row ahead, modulo a prime, of values written as often as a least power of the prime; or None.

    Only these powers count (R1), and one of them is enough if the rule is not nought modulo the prime.
    """
    found = ahead_modulo(rule, values, prime)
    while found is None and by_prime(rule, prime):
        values = values * prime
        found = ahead_modulo(rule, values, prime)
    return found


def comes_again(rule, row):
    """The least tuple (begin, length) such that a round row is the same behind begin and begin + length steps."""
    need_both(rule, row)
    begin, length = 0, 1
    for prime in primes_of(row[0]):
        told = again_modulo(by_prime(rule, prime), rests_of(row, prime), prime)
        begin = max(begin, told[0])
        length = lcm(length, told[1])
    return begin, length


def again_modulo(terms, values, prime):
    """This tuple modulo a prime."""
    share, power = turns_on_ring(len(values), prime)
    turns = share * (power - 1)
    begin = 0
    while done_often(terms, turns, values, prime) != values:
        values = stepped(terms, values, 1, prime)
        begin += 1
    for divisor in divisors_of(power - 1) + [prime]:
        while turns % divisor == 0 and done_often(terms, turns // divisor, values, prime) == values:
            turns = turns // divisor
    return begin, turns


def turns_on_ring(many, prime):
    """A tuple (share, power): the share is the greatest power of a prime in a number, and power less 1 is a multiple of
    the rest of the number, the power being the least one of the prime from the prime on.

    Round rows of so many values that come round, modulo the prime, are as they were behind share * (power - 1) steps:
    modulo each prime factor of x ** rest - 1 what is not 0 is 1 if multiplied by itself power - 1 times, and x to the
    number, less 1, has each of these so many times as the share.
    """
    share = share_of(many, prime)
    rest = many // share
    power = prime
    while power % rest != 1 % rest:
        power = power * prime
    return share, power
