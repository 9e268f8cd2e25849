"""Promise 10: plus, behind, power, by_prime, put_together."""

from itertools import product
from random import Random

from nearadds.rules import behind, by_prime, is_rule, plus, power, put_together, still
from tests.cases import Case
from tests.worked import FAR, MODULI, left_modulo, power_of, product_of, some_rule, spoiled, sum_of, told_parts

BOTH = ["one", "other"]


class SumsAndProducts(Case):

    def pairs(self, seed):
        chance = Random(seed)
        for m in MODULI:
            for _ in range(25):
                yield some_rule(chance, m), some_rule(chance, m)
            for many, more in product((0, 1, 2, 9), repeat=2):
                yield some_rule(chance, m, many=many), some_rule(chance, m, many=more)

    def test_plus(self):
        for one, other in self.pairs(1):
            self.answers(sum_of(one, other), plus, BOTH, [one, other])

    def test_behind(self):
        for one, other in self.pairs(2):
            self.answers(product_of(one, other), behind, BOTH, [one, other])

    def test_sums_that_are_nought(self):
        for m in MODULI:
            for k in range(1, m):
                self.same(plus((m, ((3, k),)), (m, ((3, m - k),))), (m, ()))
                self.same(plus((m, ((3, k), (4, 1))), (m, ((2, 1), (3, m - k)))), (m, ((2, 1), (4, 1))))

    def test_products_that_are_nought(self):
        for m, primes in MODULI.items():
            if len(primes) == 2:
                low, high = primes
                other = (m, ((0, high), (2, high)))
                self.same(behind((m, ((-4, low), (1, low))), other), (m, ()))
                square = high * high % m
                self.same(behind((m, ((0, low), (1, high))), other), (m, ((1, square), (3, square))))

    def test_rules_without_terms(self):
        for m in MODULI:
            rule = (m, ((-4, 1), (3, m - 1)))
            self.same(plus((m, ()), rule), rule)
            self.same(plus(rule, (m, ())), rule)
            self.same(plus((m, ()), (m, ())), (m, ()))
            self.same(behind((m, ()), rule), (m, ()))
            self.same(behind(rule, (m, ())), (m, ()))
            self.same(behind(still(m), rule), rule)
            self.same(behind(rule, still(m)), rule)

    def test_offsets_to_40(self):
        chance = Random(3)
        for m in MODULI:
            one, other = some_rule(chance, m, -40, 40, 60), some_rule(chance, m, -40, 40, 81)
            self.same(plus(one, other), sum_of(one, other))
            self.same(behind(one, other), product_of(one, other))
            ends = (m, ((-40, 1), (40, m - 1)))
            self.same(behind(ends, ends), left_of(m, {-80: 1, 0: -2, 80: 1}))

    def test_what_is_returned_may_be_passed_again(self):
        chance = Random(4)
        for m in MODULI:
            rules = [some_rule(chance, m) for _ in range(10)]
            made = expected = (m, ((0, 1),))
            for rule in rules:
                made, expected = behind(made, rule), product_of(expected, rule)
                self.same(made, expected)
                self.same(is_rule(made), True)


def left_of(modulus, sums):
    return modulus, tuple((d, sums[d] % modulus) for d in sorted(sums) if sums[d] % modulus)


class Powers(Case):

    def test_small_powers(self):
        chance = Random(5)
        for m in MODULI:
            for rule in [some_rule(chance, m) for _ in range(3)] + [some_rule(chance, m, many=9)]:
                for times in range(9):
                    self.answers(power_of(rule, times), power, ["rule", "times"], [rule, times])

    def test_all_times_to_40(self):
        for m in MODULI:
            rule = (m, ((-1, 1), (0, m - 1), (2, 1)))
            expected = (m, ((0, 1),))
            for times in range(41):
                self.same(power(rule, times), expected)
                expected = product_of(expected, rule)

    def test_0_times_leaves_all(self):
        for m in MODULI:
            for rule in ((m, ()), (m, ((4, 1),)), (m, ((-40, 1), (40, 1)))):
                self.same(power(rule, 0), (m, ((0, 1),)))

    def test_rules_without_terms(self):
        for m in MODULI:
            for times in (1, 2, 3, 40):
                self.same(power((m, ()), times), (m, ()))

    def test_one_term(self):
        for m in MODULI:
            for factor in range(1, m):
                for times in (1, 2, 7, 39, 40):
                    expected = ((-3 * times, factor ** times % m),) if factor ** times % m else ()
                    self.same(power((m, ((-3, factor),)), times), (m, expected))

    def test_40_times_at_offsets_to_40(self):
        chance = Random(6)
        for m in (2, 15):
            rule = (m, ((-40, 1), (-1, m - 1), (40, 1)))
            self.same(power(rule, 40), power_of(rule, 40))
        for m in MODULI:
            rule = some_rule(chance, m, -40, 40, 81)
            told = power(rule, 40)
            # Each number in place of x tells the rule's value, and its power, modulo a prime of the modulus.
            for prime in MODULI[m]:
                for x in range(1, prime):
                    self.assertEqual(value_at(told, x, prime), pow(value_at(rule, x, prime), 40, prime))
            ends = [(-1600, pow(rule[1][0][1], 40, m)), (1600, pow(rule[1][-1][1], 40, m))]
            self.same([told[1][0], told[1][-1]], ends)


def value_at(rule, x, prime):
    return sum(c * pow(x, d % (prime - 1), prime) for d, c in rule[1]) % prime


class ByPrimes(Case):

    def test_by_prime(self):
        chance = Random(7)
        for m, primes in MODULI.items():
            for _ in range(20):
                rule = some_rule(chance, m)
                for prime in primes:
                    self.answers(left_modulo(rule, prime), by_prime, ["rule", "prime"], [rule, prime])

    def test_nought_modulo_one_of_two_primes(self):
        for m, primes in MODULI.items():
            if len(primes) == 2:
                for nought, other in (primes, primes[::-1]):
                    rule = (m, ((-4, nought), (2, m - nought)))
                    self.same(by_prime(rule, nought), ())
                    self.same(by_prime(rule, other), ((-4, nought % other), (2, -nought % other)))
            for prime in primes:
                self.same(by_prime((m, ()), prime), ())

    def test_put_together(self):
        chance = Random(8)
        for m, primes in MODULI.items():
            for _ in range(20):
                parts = [some_rule(chance, prime)[1] for prime in primes]
                made = put_together(m, parts)
                self.same(is_rule(made), True)
                self.same([left_modulo(made, prime) for prime in primes], parts)
                self.answers(made, put_together, ["modulus", "parts"], [m, parts])

    def test_each_remainder_is_told_by_its_remainders(self):
        for m, primes in MODULI.items():
            for k in range(m):
                parts = [((5, k % prime),) if k % prime else () for prime in primes]
                self.same(put_together(m, parts), (m, ((5, k),) if k else ()))

    def test_parts_that_are_nought_and_far_offsets(self):
        for m, primes in MODULI.items():
            self.same(put_together(m, [()] * len(primes)), (m, ()))
            for k, prime in enumerate(primes):
                parts = [()] * len(primes)
                parts[k] = ((-40, 1), (40, prime - 1))
                made = put_together(m, parts)
                self.same([left_modulo(made, p) for p in primes], parts)
            far = [((-FAR, 1), (FAR, prime - 1)) for prime in primes]
            self.same([left_modulo(put_together(m, far), prime) for prime in primes], far)

    def test_it_is_the_way_back_from_by_prime(self):
        chance = Random(9)
        for m, primes in MODULI.items():
            for rule in [some_rule(chance, m, -40, 40) for _ in range(20)]:
                self.same(put_together(m, [by_prime(rule, prime) for prime in primes]), rule)

    def test_which_lists_are_parts(self):
        for m, primes in MODULI.items():
            parts = [((-1, 1), (2, prime - 1)) for prime in primes]
            for odd in spoiled(parts):
                if told_parts(m, odd):
                    made = put_together(m, odd)
                    self.same([left_modulo(made, prime) for prime in primes], odd)
