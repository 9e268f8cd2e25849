"""Back from finite rows: which row stood ahead, what bars one, and how many steps one can go back."""

from nearadds.errors import InvalidNumber, InvalidRule
from nearadds.factors import coefficients
from nearadds.forms import is_remainders, renewed
from nearadds.polys import divided, stretched
from nearadds.recurring import row_remainder, turns_for
from nearadds.rules import by_prime, has_prime, need_row, need_rule, need_same, primes_of, put_together
from nearadds.spreads import by_places

MOST_BACK = 100


def need_live_rule(rule):
    """Refuses any object that is no rule, or a rule that is nought modulo some prime of its modulus."""
    need_rule(rule)
    if not all([by_prime(rule, prime) for prime in primes_of(rule[0])]):
        raise InvalidRule(renewed(rule))


def need_both(rule, row):
    """Refuses two objects that are not such a rule and a finite row of one modulus."""
    need_live_rule(rule)
    need_row(row)
    need_same(rule, row)


def ahead(rule, row):
    """The finite row of which one step leaves this one; None if there is none."""
    need_both(rule, row)
    return led_back(rule, row, 1)


def led_back(rule, row, times):
    """The finite row that leaves this one in so many steps; None if there is none."""
    parts = [back_by(by_prime(rule, prime), by_prime(row, prime), times, prime) for prime in primes_of(row[0])]
    if any([part is None for part in parts]):
        return None
    return put_together(row[0], parts)


def back_by(terms, cells, times, prime):
    """The cells of this row modulo a prime; None if there is none."""
    if not cells:
        return ()
    left, poly = coefficients(cells), by_places(terms)
    number, share = times, 1
    while number:
        # A rule done as often as the prime is the rule with its offsets so many times as great (F1).
        for _ in range(number % prime):
            left, rest = divided(left, stretched(poly, share), prime)
            if rest:
                return None
        number = number // prime
        share = share * prime
    # The least place that a step reaches is the least one less the greatest offset.
    first = cells[0][0] + terms[-1][0] * times
    return tuple([(first + k, value) for k, value in enumerate(left) if value])


def bar(rule, row):
    """A tuple (prime, values) that bars any finite row from being ahead of this one; None if there is one ahead."""
    need_both(rule, row)
    for prime in primes_of(row[0]):
        rest = remainder(rule, row, prime)
        found = [k for k, value in enumerate(rest) if value]
        if found:
            return prime, tuple([int(k == found[0]) for k in range(len(rest))])
    return None


def remainder(rule, row, prime):
    """The list of what each of the values of a bar is multiplied by in the sum over all cells of a row.

    An endless row of bars is told by its first values, as many as the rule is wide modulo the prime.
    """
    poly = by_places(by_prime(rule, prime))
    return row_remainder(by_prime(row, prime), poly, turns_for(len(poly) - 1, 1, prime), prime)


def bars(rule, row, value):
    """Whether any object is a bar."""
    need_both(rule, row)
    if not has_prime(value, row[0]):
        return False
    prime, values = value
    rest = remainder(rule, row, prime)
    if not is_remainders(values, len(rest), prime):
        return False
    return sum([weight * much for weight, much in zip(values, rest)]) % prime != 0


def steps_back(rule, row):
    """The greatest number of steps for which a finite row leaves this one; "endless" if there is no greatest one."""
    need_both(rule, row)
    found = []
    for prime in primes_of(row[0]):
        poly, cells = by_places(by_prime(rule, prime)), by_prime(row, prime)
        if len(poly) > 1 and cells:
            found.append(times_in(coefficients(cells), poly, prime))
    return min(found, default="endless")


def times_in(row, poly, prime):
    """How often a polynomial, not nought, can be divided by another one with two coefficients or more."""
    share = 1
    while (len(poly) - 1) * share * prime < len(row):
        share = share * prime
    times = 0
    while share:
        # Modulo the prime this is the polynomial to the share.
        power = stretched(poly, share)
        often, rest = divided(row, power, prime)
        while not rest:
            times += share
            row = often
            often, rest = divided(row, power, prime)
        share = share // prime
    return times


def row_back(rule, row, times):
    """The finite row that leaves this one in so many steps; None if there is none."""
    need_both(rule, row)
    if not 0 <= times <= MOST_BACK:
        raise InvalidNumber(times)
    return led_back(rule, row, times)
