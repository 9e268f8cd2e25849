"""Promises 2 and 11: calls at the very limits answer, and rightly."""

from itertools import product
from random import Random

from nearadds.factors import common, factored, is_factor, of_factors, order
from nearadds.rules import added, behind, by_prime, is_program, is_rule, plus, power, put_together, round_step, step
from tests.cases import Case
from tests.worked import FAR, MODULI, PRIMES, left_modulo, product_of, product_of_all, rest_of_x, round_behind
from tests.worked import row_behind, some_monic, some_round, some_rule, sum_of, times


def widest(modulus):
    """A rule with all offsets to 40 on either side and unlike factors."""
    return modulus, tuple((d, 1 + (d * d + 3 * d) % (modulus - 1)) for d in range(-40, 41))


def at_limits(modulus):
    """A row of 30 cells at the least and the greatest places of sixty digits."""
    places = [-FAR + 7 * k for k in range(10)] + list(range(-5, 5)) + [FAR - 9 + k for k in range(10)]
    return modulus, tuple((place, 1 + k % (modulus - 1)) for k, place in enumerate(places))


class Rules(Case):

    def test_offsets_to_40(self):
        for m, primes in MODULI.items():
            rule, other = widest(m), (m, ((-40, m - 1), (40, 1)))
            self.same(is_rule(rule), True)
            self.same(plus(rule, other), sum_of(rule, other))
            self.same(behind(rule, other), product_of(rule, other))
            self.same(behind(rule, rule), product_of(rule, rule))
            parts = [by_prime(rule, prime) for prime in primes]
            self.same(parts, [left_modulo(rule, prime) for prime in primes])
            self.same(put_together(m, parts), rule)

    def test_40_times(self):
        for m in MODULI:
            # 40 times are 5 times 8 times: each made from what was worked out ahead of it.
            rule = (m, ((-40, m - 1), (-1, 1), (0, 1), (40, 1)))
            made = rule
            for _ in range(3):
                made = product_of(made, made)
            expected = made
            for _ in range(4):
                expected = product_of(expected, made)
            self.same(power(rule, 40), expected)

    def test_what_40_times_make_is_a_rule_that_is_passed_again(self):
        for m in MODULI:
            made = power((m, ((-1, 1), (1, m - 1))), 40)
            self.same([made[1][0][0], made[1][-1][0]], [-40, 40])
            self.same(plus(made, made), sum_of(made, made))
            self.same(step(made, at_limits(m)), row_behind(made, at_limits(m)))

    def test_30_cells_at_places_of_60_digits(self):
        for m in MODULI:
            row = at_limits(m)
            self.same(len(row[1]), 30)
            for rule in (widest(m), (m, ((-4, 1), (4, m - 1)))):
                self.same(step(rule, row), row_behind(rule, row))
            moved = (m, tuple((place + 1, m - value) for place, value in row[1][:-1]))
            self.same(added(row, moved), sum_of(row, moved))

    def test_60_values(self):
        chance = Random(1)
        for m in MODULI:
            row = some_round(chance, m, 60)
            for rule in (widest(m), some_rule(chance, m)):
                self.same(round_step(rule, row), round_behind(rule, row))

    def test_programs_of_6_steps_and_the_most_times(self):
        for m in MODULI:
            self.same(is_program((m, ((widest(m)[1], 10 ** 30),) * 6)), True)
            self.same(is_program((m, ((widest(m)[1], 10 ** 30),) * 5 + ((widest(m)[1], 10 ** 30 + 1),))), False)


class Factors(Case):

    def test_rules_of_9_terms(self):
        chance = Random(2)
        for m, primes in MODULI.items():
            for _ in range(5):
                rule = some_rule(chance, m, many=9)
                for prime, entry in zip(primes, factored(rule)):
                    left = left_modulo(rule, prime)
                    made = product_of_all(entry[3], prime)
                    terms = [(entry[1] + k, entry[2] * value % prime) for k, value in enumerate(made)]
                    self.same(tuple((d, c) for d, c in terms if c), left)
                    self.same([is_factor(prime, part[0]) for part in entry[3]], [True] * len(entry[3]))
                self.same(of_factors(m, factored(rule)), rule)
                self.same([len(poly) for poly in common(rule, rule)], [wide(rule, prime) + 1 for prime in primes])

    def test_common_of_the_greatest_lengths(self):
        chance = Random(3)
        for prime in PRIMES:
            for many in range(2, 8):
                shared = some_monic(chance, prime, many)
                rules = []
                # x + 1 and x ** 2 + x + 1 have nothing in common.
                for least, further in ((-4, (1, 1)), (4, (1, 1, 1))):
                    whole = times(shared, further, prime)
                    least = min(least, 5 - len(whole))
                    rules.append((prime, tuple((least + k, value) for k, value in enumerate(whole) if value)))
                self.same(common(*rules), [shared])

    def test_rules_that_power_made(self):
        for prime, a in product(PRIMES, (1, -1)):
            rule = power((prime, ((-1, 1), (0, a % prime))), 40)
            value = [(prime, -40, 1, (((pow(a, -1, prime), 1), 40),))]
            self.same(of_factors(prime, value), rule)

    def test_80_times(self):
        for prime in PRIMES:
            one = (prime, ((-1, prime - 1), (0, 1)))
            made = power(one, 40)
            self.same(of_factors(prime, [(prime, -80, 1, (((prime - 1, 1), 80),))]), product_of(made, made))

    def test_orders_of_9_coefficients(self):
        for prime, poly, expected in ((2, (1, 0, 1, 1, 1, 0, 0, 0, 1), 255), (2, (1, 1, 0, 1, 1, 0, 0, 0, 1), 51),
                                      (2, (1, 0, 0, 1, 1, 1, 0, 0, 1), 17), (5, (3, 0, 0, 0, 0, 0, 0, 0, 1), 32),
                                      (13, (11, 0, 0, 0, 0, 0, 0, 0, 1), 96)):
            self.same(is_factor(prime, poly), True)
            self.same(order(prime, poly), expected)

    def test_greatest_orders(self):
        # Of 13 ** 8 - 1 = 2 ** 5 * 3 * 5 * 7 * 17 * 14281 all primes have to be told apart.
        chance, found = Random(4), 0
        while found != 13 ** 8 - 1:
            poly = some_monic(chance, 13, 9)
            if is_factor(13, poly):
                found = order(13, poly)
                self.assertEqual(rest_of_x(found, poly, 13), [1, 0, 0, 0, 0, 0, 0, 0])
                for q in (2, 3, 5, 7, 17, 14281):
                    if found % q == 0:
                        self.assertNotEqual(rest_of_x(found // q, poly, 13), [1, 0, 0, 0, 0, 0, 0, 0])


def wide(rule, prime):
    left = left_modulo(rule, prime)
    return left[-1][0] - left[0][0]
