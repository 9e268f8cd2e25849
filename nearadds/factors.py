"""Rules as products of prime factors modulo each prime, and what two rules have in common."""

from nearadds.errors import InvalidFactor, InvalidNumber
from nearadds.forms import ascends, is_number, is_two, is_within, renewed
from nearadds.leavings import Leavings
from nearadds.polys import in_both, monic, product_of
from nearadds.rules import by_prime, need_rule, need_rules, primes_of, put_together
from nearadds.splitting import is_unsplit, prime_factors

KNOWN_PRIMES = (2, 3, 5, 7, 11, 13)


def need_prime(prime):
    """Refuses an integer that is no prime of a modulus."""
    if prime not in KNOWN_PRIMES:
        raise InvalidNumber(prime)


def coefficients(terms):
    """The list of the factors of terms from the least offset to the greatest one; [] of none."""
    if not terms:
        return []
    least = terms[0][0]
    found = [0] * (terms[-1][0] - least + 1)
    for offset, factor in terms:
        found[offset - least] = factor
    return found


def factored(rule):
    """The list, for each prime, of the tuple (prime, offset, factor, parts) that a rule is; (prime,) if nought."""
    need_rule(rule)
    return [factored_by(rule, prime) for prime in primes_of(rule[0])]


def factored_by(rule, prime):
    """The tuple of factored for one prime."""
    terms = by_prime(rule, prime)
    if not terms:
        return (prime,)
    parts = prime_factors(monic(coefficients(terms), prime), prime)
    return prime, terms[0][0], terms[-1][1], tuple(parts)


def of_factors(modulus, value):
    """The rule of such a list."""
    primes = primes_of(modulus)
    if not is_factored(value, primes):
        raise InvalidFactor(renewed(value))
    return put_together(modulus, [terms_of(told) for told in value])


def is_factored(value, primes):
    """Whether any object is a list as factored tells for these primes."""
    if not isinstance(value, list) or len(value) != len(primes):
        return False
    return all([is_factored_by(told, prime) for told, prime in zip(value, primes)])


def is_factored_by(value, prime):
    """Whether any object is a tuple as factored tells for this prime."""
    if not isinstance(value, tuple) or len(value) not in (1, 4) or not is_number(value[0]) or value[0] != prime:
        return False
    if len(value) == 1:
        return True
    return is_number(value[1]) and is_within(value[2], 1, prime - 1) and is_factors(prime, value[3])


def is_factors(prime, value):
    """Whether any object is a tuple of tuples (prime factor, times), ascending, no prime factor twice."""
    if not isinstance(value, tuple):
        return False
    if not all([is_two(part) and is_factor(prime, part[0]) and is_number(part[1]) and part[1] > 0 for part in value]):
        return False
    return ascends([part[0] for part in value])


def terms_of(told):
    """The terms, modulo the prime, that one tuple of factored is; () if it is nought."""
    if len(told) == 1:
        return ()
    prime, least, last, parts = told
    product = product_of(parts, prime)
    return tuple([(least + k, value * last % prime) for k, value in enumerate(product) if value])


def is_factor(prime, value):
    """Whether any object is a prime factor of a prime."""
    need_prime(prime)
    if not isinstance(value, tuple) or len(value) < 2 or not all([is_within(k, 0, prime - 1) for k in value]):
        return False
    return value[0] > 0 and value[-1] == 1 and is_unsplit(list(value), prime)


def order(prime, factor):
    """The least number n from 1 on such that a prime factor divides x ** n - 1 modulo the prime."""
    if not is_factor(prime, factor):
        raise InvalidFactor(renewed(factor))
    number = 1
    for _ in factor[1:]:
        number = number * prime
    # The order divides this number: so what divides it may be taken off as long as the power stays 1.
    number -= 1
    leavings = Leavings(factor, prime)
    for divisor in divisors_of(number):
        while number % divisor == 0 and leavings.power(number // divisor) == leavings.one:
            number = number // divisor
    return number


def divisors_of(number):
    """The ascending list of the primes that divide a number from 1 on."""
    found = []
    divisor = 2
    while divisor * divisor <= number:
        if number % divisor == 0:
            found.append(divisor)
            while number % divisor == 0:
                number = number // divisor
        divisor += 1
    return found + [number] if number > 1 else found


def common(one, other):
    """The list, for each prime, of the coefficients of the greatest polynomial that divides two rules."""
    need_rules(one, other)
    return [common_by(one, other, prime) for prime in primes_of(one[0])]


def common_by(one, other, prime):
    """The tuple of common for one prime."""
    return tuple(in_both(coefficients(by_prime(one, prime)), coefficients(by_prime(other, prime)), prime))
