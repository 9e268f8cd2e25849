"""Promises 7, 8 and 11: factored, of_factors, common."""

from itertools import product
from random import Random

from nearadds.factors import common, factored, of_factors
from nearadds.rules import is_rule
from tests.cases import Case
from tests.worked import MODULI, PRIMES, coefficients, common_by_trying, divides, is_prime_by_trying, left_modulo
from tests.worked import monics, product_of_all, some_monic, some_rule, times

SHORT = {2: 9, 3: 6, 5: 4, 7: 4, 11: 3, 13: 3}


def terms_of(offset, factor, poly, prime):
    """The terms of factor times x to the power offset times a polynomial."""
    made = [(offset + k, factor * value % prime) for k, value in enumerate(poly)]
    return tuple((d, c) for d, c in made if c)


def together(modulus, parts):
    """The rule with these terms modulo the primes, by trying all factors at each offset."""
    made = []
    for d in sorted({d for part in parts for d, _ in part}):
        rests = [dict(part).get(d, 0) for part in parts]
        made += [(d, c) for c in range(modulus) if [c % prime for prime in MODULI[modulus]] == rests]
    return modulus, tuple(made)


class Primes:
    """Prime factors of each prime, found by trying, and tried but once."""

    def __init__(self):
        self.known = {}

    def all(self, prime, many):
        if (prime, many) not in self.known:
            found = [poly for poly in monics(prime, many) if is_prime_by_trying(poly, prime)]
            self.known[prime, many] = found
        return self.known[prime, many]

    def some(self, chance, prime, most):
        return chance.choice(self.all(prime, chance.randint(2, min(most, SHORT[prime]))))


FOUND = Primes()


class Factored(Case):

    def judged(self, rule):
        """The list of a rule, multiplied out again and each of its parts tried."""
        told = factored(rule)
        self.same([entry[0] for entry in told], MODULI[rule[0]])
        self.same(type(told), list)
        for entry in told:
            prime, left = entry[0], left_modulo(rule, entry[0])
            if not left:
                self.same(entry, (prime,))
                continue
            _, offset, factor, parts = entry
            self.same([offset, factor], [left[0][0], left[-1][1]])
            self.same(terms_of(offset, factor, product_of_all(parts, prime), prime), left)
            self.same(type(parts), tuple)
            self.assertEqual([part[0] for part in parts], sorted({part[0] for part in parts}))
            for poly, often in parts:
                self.same([type(often), often > 0, poly[-1], poly[0] > 0], [int, True, 1, True])
                self.assertTrue(is_prime_by_trying(poly, prime), (poly, prime))
        return told

    def test_all_rules_of_2(self):
        for factors in product(range(2), repeat=9):
            self.judged((2, tuple((k - 4, 1) for k in range(9) if factors[k])))

    def test_all_short_rules_of_3_and_5(self):
        for m, many in ((3, 6), (5, 4)):
            for factors in product(range(m), repeat=many):
                self.judged((m, tuple((k - 2, factors[k]) for k in range(many) if factors[k])))

    def test_all_moduli(self):
        chance = Random(1)
        for m in MODULI:
            for _ in range(20):
                self.judged(some_rule(chance, m, -3, 3))
            for _ in range(2):
                rule = some_rule(chance, m, many=9)
                self.answers(self.judged(rule), factored, ["rule"], [rule])

    def test_products_of_known_parts(self):
        chance = Random(2)
        for m, primes in MODULI.items():
            for _ in range(30):
                entries = [known_entry(chance, prime) for prime in primes]
                rule = together(m, [terms_of(e[1], e[2], product_of_all(e[3], e[0]), e[0]) for e in entries])
                self.same(factored(rule), entries)
                self.same(of_factors(m, entries), rule)

    def test_parts_as_often_as_the_prime_or_a_power_of_it(self):
        for prime in PRIMES:
            for poly in FOUND.all(prime, 2) + FOUND.all(prime, 3):
                for often in range(1, 8 // (len(poly) - 1) + 1):
                    rule = (prime, terms_of(-4, prime - 1, product_of_all(((poly, often),), prime), prime))
                    self.same(factored(rule), [(prime, -4, prime - 1, ((poly, often),))])

    def test_parts_that_occur_unlike_times(self):
        one, two, square = (1, 1), (2, 1), (1, 0, 1)
        for prime, parts in ((2, ((one, 4), ((1, 1, 1), 2))), (2, ((one, 2), ((1, 1, 1), 3))), (2, ((one, 8),)),
                             (2, (((1, 0, 1, 1), 1), (one, 1), ((1, 1, 0, 1), 1))), (3, ((one, 3), (two, 3))),
                             (3, ((one, 3), (two, 5))), (3, ((square, 1), (one, 4), (two, 2))),
                             (3, ((square, 3), (one, 1), (two, 1))), (3, ((one, 6), (two, 2))),
                             (5, ((one, 5), (two, 1), ((3, 1), 2))), (7, ((square, 1), (one, 6))),
                             (7, ((one, 7), (two, 1))), (11, ((one, 8),)), (13, ((one, 7), (two, 1)))):
            parts = tuple(sorted(parts))
            rule = (prime, terms_of(-4, 1, product_of_all(parts, prime), prime))
            self.same(factored(rule), [(prime, -4, 1, parts)])

    def test_rules_nought_modulo_all_or_one_prime(self):
        for m, primes in MODULI.items():
            self.same(factored((m, ())), [(prime,) for prime in primes])
            if len(primes) == 2:
                low, high = primes
                told = factored((m, ((-4, low), (4, low))))
                self.same(told[0], (low,))
                self.same(self.judged((m, ((-4, low), (4, low)))), told)
                self.same(self.judged((m, ((-4, high), (4, m - high))))[1], (high,))

    def test_one_term(self):
        for m, primes in MODULI.items():
            for offset, factor in product((-4, 0, 3), range(1, m)):
                expected = [(p, offset, factor % p, ()) if factor % p else (p,) for p in primes]
                self.same(factored((m, ((offset, factor),))), expected)

    def test_widths_unlike_modulo_two_primes(self):
        self.same(factored((6, ((-4, 3), (-1, 2), (0, 4), (2, 3)))),
                  [(2, -4, 1, (((1, 1), 2), ((1, 1, 1), 2))), (3, -1, 1, (((2, 1), 1),))])


def known_entry(chance, prime):
    """A tuple as factored tells, of prime factors that were found by trying, with at most 9 coefficients."""
    parts, left = {}, 8
    while left and chance.randrange(5):
        poly = FOUND.some(chance, prime, left + 1)
        parts[poly] = parts.get(poly, 0) + 1
        left -= len(poly) - 1
    return prime, chance.randint(-4, left - 4), chance.randrange(1, prime), tuple(sorted(parts.items()))


class OfFactors(Case):

    def test_lists_of_rules(self):
        chance = Random(3)
        for m, primes in MODULI.items():
            for _ in range(20):
                entries = [known_entry(chance, p) if chance.randrange(4) else (p,) for p in primes]
                parts = [terms_of(e[1], e[2], product_of_all(e[3], e[0]), e[0]) if e[1:] else () for e in entries]
                self.answers(together(m, parts), of_factors, ["modulus", "value"], [m, entries])
                self.same(is_rule(of_factors(m, entries)), True)

    def test_nought(self):
        for m, primes in MODULI.items():
            self.same(of_factors(m, [(prime,) for prime in primes]), (m, ()))

    def test_no_parts(self):
        for m, primes in MODULI.items():
            entries = [(prime, 5, prime - 1, ()) for prime in primes]
            self.same(of_factors(m, entries), (m, ((5, m - 1),)))

    def test_offsets_to_40(self):
        for m, primes in MODULI.items():
            entries = [(prime, -40, 1, (((prime - 1, 1), 80),)) for prime in primes]
            row = (1,)
            for _ in range(80):
                row = tuple(a - b for a, b in zip((0, *row), (*row, 0)))
            self.same(of_factors(m, entries), (m, tuple((k - 40, c % m) for k, c in enumerate(row) if c % m)))

    def test_long_prime_factors(self):
        chance = Random(4)
        # x ** n - a is prime if each prime of n divides the least power of a that is 1, but not the rest of p - 1,
        # and 4 divides n only if it divides p - 1.
        for prime, a, n in ((3, 2, 2), (5, 2, 64), (7, 3, 54), (11, 2, 50), (13, 2, 72), (13, 2, 64)):
            poly = ((-a) % prime,) + (0,) * (n - 1) + (1,)
            middle = (chance.randrange(1, prime), 1)
            entries = [(prime, 40 - n - 2, prime - 1, tuple(sorted(((poly, 1), (middle, 2)))))]
            expected = terms_of(38 - n, prime - 1, times(poly, times(middle, middle, prime), prime), prime)
            self.same(of_factors(prime, entries), (prime, expected))


class Common(Case):

    def test_common_by_trying(self):
        chance = Random(5)
        for m, primes in MODULI.items():
            for _ in range(12):
                wide = {2: 8, 3: 6, 5: 4, 7: 3}.get(primes[-1], 2)
                one, other = some_rule(chance, m, -4, wide - 4), some_rule(chance, m, 4 - wide, 4)
                expected = [expected_common(one, other, prime) for prime in primes]
                self.answers(expected, common, ["one", "other"], [one, other])

    def test_products_with_known_parts(self):
        chance = Random(6)
        for m, primes in MODULI.items():
            for _ in range(20):
                rules, expected = [[], []], []
                for prime in primes:
                    shared = some_monic(chance, prime, chance.randint(2, 4))
                    first, second = chance.sample(FOUND.all(prime, 2) + FOUND.all(prime, 3), 2) if prime > 2 else (
                        (1, 1), (1, 1, 1))
                    for k, poly in enumerate((first, second)):
                        whole = times(shared, times(poly, poly, prime), prime)
                        rules[k].append(terms_of(chance.randint(-4, -3), chance.randrange(1, prime), whole, prime))
                    expected.append(shared)
                one, other = [together(m, parts) for parts in rules]
                self.same(common(one, other), expected)
                self.same(common(other, one), expected)

    def test_of_a_rule_and_itself_moved_or_multiplied(self):
        chance = Random(7)
        for m, primes in MODULI.items():
            rule = some_rule(chance, m, -2, 2, 5)
            moved = (m, tuple((d + 2, c) for d, c in rule[1]))
            expected = [expected_common(rule, (m, ()), prime) for prime in primes]
            self.same(common(rule, rule), expected)
            self.same(common(rule, moved), expected)
            multiplied = (m, tuple((d, c * (m - 1) % m) for d, c in rule[1]))
            self.same(common(rule, multiplied), expected)

    def test_nought(self):
        for m, primes in MODULI.items():
            self.same(common((m, ()), (m, ())), [()] * len(primes))
            for rule in ((m, ((3, 1),)), (m, ((-2, 1), (1, m - 1))), (m, ((0, m - 1), (1, 1)))):
                expected = [expected_common(rule, (m, ()), prime) for prime in primes]
                self.same(common(rule, (m, ())), expected)
                self.same(common((m, ()), rule), expected)

    def test_nought_modulo_one_prime(self):
        self.same(common((6, ((0, 3), (2, 3))), (6, ((1, 2), (2, 2)))), [(1, 0, 1), (1, 1)])
        self.same(common((6, ((0, 3), (2, 3))), (6, ((1, 3), (2, 3)))), [(1, 1), ()])
        self.same(common((15, ((-4, 6), (1, 3))), (15, ())), [(), (2, 0, 0, 0, 0, 1)])
        self.same(common((15, ((-4, 6), (1, 3))), (15, ((2, 7),))), [(1,), (1,)])

    def test_constants(self):
        for m, primes in MODULI.items():
            self.same(common((m, ((-4, 1),)), (m, ((4, m - 1),))), [(1,)] * len(primes))
            self.same(common((m, ((-4, 1),)), (m, ((3, 1), (4, m - 1)))), [(1,)] * len(primes))


def expected_common(one, other, prime):
    first, second = coefficients(one, prime), coefficients(other, prime)
    if first and second:
        return common_by_trying(first, second, prime)
    left = first or second
    share = [k for k in range(prime) if left and k * left[-1] % prime == 1]
    return tuple(share[0] * value % prime for value in left)


class ExpectedIsRight(Case):
    """The tests' own work, at values that are known."""

    def test_dividing(self):
        self.assertTrue(divides((1, 1), (1, 0, 1), 2))
        self.assertFalse(divides((1, 1), (1, 0, 1), 3))
        self.assertEqual(common_by_trying((1, 0, 1), (1, 1, 1, 1), 2), (1, 0, 1))
