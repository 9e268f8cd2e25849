"""Promises 8 and 11: is_factor, order."""

from random import Random

from nearadds.factors import is_factor, order
from tests.cases import Case
from tests.worked import FAR, PRIMES, is_prime_by_powers, is_prime_by_trying, monics, odd_objects, order_by_steps
from tests.worked import product_of_all, rest_of_x, some_monic, spoiled, times, told_factor

SIEVED = {2: 11, 3: 7, 5: 5, 7: 5, 11: 4, 13: 4}


def products(prime, most):
    """All products with at most so many coefficients of two polynomials with the last coefficient 1."""
    found = set()
    for many in range(2, most):
        for more in range(many, most - many + 2):
            for one in monics(prime, many):
                found.update(times(one, other, prime) for other in monics(prime, more))
    return found


def primes_in(number):
    found, divisor = [], 2
    while divisor * divisor <= number:
        while number % divisor == 0:
            found, number = found + [divisor], number // divisor
        divisor += 1
    return sorted(set(found + [number] * (number > 1)))


class IsFactor(Case):

    def test_all_short_polynomials_that_are_no_product(self):
        for prime, most in SIEVED.items():
            made = products(prime, most)
            for many in range(2, most + 1):
                for poly in monics(prime, many):
                    self.same(is_factor(prime, poly), poly not in made)

    def test_the_last_coefficient_is_1_and_the_first_one_is_not_0(self):
        for prime in PRIMES:
            for last in range(2, prime):
                self.same(is_factor(prime, (1, last)), False)
                self.same(is_factor(prime, (last, last)), False)
            for first in range(1, prime):
                self.answers(True, is_factor, ["prime", "value"], [prime, (first, 1)])
                self.same(is_factor(prime, (first, 1, 0)), False)
                self.same(is_factor(prime, (0, first, 1)), False)
            for value in ((0, 1), (0, 0, 1), (1,), (0,), (), (1, 0), (prime, 1), (prime + 1, 1), (-1, 1), (1, prime + 1),
                          (1, 1 - prime), (1, FAR), (FAR, 1), (True, 1), (1, True), (True, True), (1, False, 1),
                          [1, 1], (1, [1]), ((1, 1),), (1, (1,)), ("1", "1"), "11", b"11", (1, None), {0: 1, 1: 1}):
                self.answers(False, is_factor, ["prime", "value"], [prime, value])

    def test_odd_objects(self):
        for prime in PRIMES:
            for value in odd_objects():
                self.same(is_factor(prime, value), False)
                self.same(is_factor(prime=prime, value=value), False)

    def test_spoiled_in_one_thing(self):
        for prime in PRIMES:
            for many in (2, 3, 4):
                value = next(poly for poly in monics(prime, many) if is_prime_by_trying(poly, prime))
                self.same(is_factor(prime, value), True)
                for odd in spoiled(value):
                    self.same(is_factor(prime, odd), told_factor(prime, odd))

    def test_a_prime_factor_of_one_prime_is_none_of_another(self):
        self.same([is_factor(p, (1, 1, 1)) for p in PRIMES], [True, False, True, False, True, False])
        self.same([is_factor(p, (1, 0, 1)) for p in PRIMES], [False, True, False, True, True, False])
        self.same([is_factor(p, (1, 1, 0, 0, 1)) for p in PRIMES], [is_prime_by_trying((1, 1, 0, 0, 1), p)
                                                                      for p in PRIMES])

    def test_20_coefficients(self):
        chance = Random(1)
        for prime in PRIMES:
            found = []
            while found.count(True) < 3:
                poly = some_monic(chance, prime, 20)
                found.append(is_prime_by_powers(poly, prime))
                self.same(is_factor(prime, poly), found[-1])

    def test_20_coefficients_tried_by_all_shorter_ones(self):
        chance = Random(2)
        for _ in range(40):
            poly = some_monic(chance, 2, 20)
            self.same(is_factor(2, poly), is_prime_by_trying(poly, 2))

    def test_sums_of_all_powers_to_18(self):
        # Prime exactly if the powers of the prime leave all remainders but 0 by 19.
        for prime in PRIMES:
            all_left = len({prime ** k % 19 for k in range(18)}) == 18
            self.same(is_factor(prime, (1,) * 19), all_left)
            self.same(is_factor(prime, (1,) * 20), False)
        self.same([is_factor(prime, (1,) * 19) for prime in PRIMES], [True, True, False, False, False, True])

    def test_x_to_the_prime_less_x_less_1(self):
        for prime in PRIMES:
            middle = (prime - 1, prime - 1, *[0] * (prime - 2), 1) if prime > 2 else (1, 1, 1)
            self.same(is_factor(prime, middle), True)

    def test_long_products_without_short_parts(self):
        chance = Random(3)
        for prime in PRIMES:
            for many in (3, 4, 6, 8):
                one, other = [], []
                for found, length in ((one, many), (other, 21 - many)):
                    while not found:
                        poly = some_monic(chance, prime, length)
                        found.extend([poly] * is_factor(prime, poly))
                self.same(is_factor(prime, times(one[0], other[0], prime)), False)

    def test_powers_are_no_prime_factors(self):
        for prime in PRIMES:
            for poly in ((1, 1), (prime - 1, 1)):
                for often in (2, 3, prime, 2 * prime, prime * prime):
                    if often < 20:
                        self.same(is_factor(prime, product_of_all([(poly, often)], prime)), False)
        self.same(is_factor(2, product_of_all([((1, 1, 1), 2)], 2)), False)
        self.same(is_factor(3, product_of_all([((1, 0, 1), 3)], 3)), False)
        self.same(is_factor(3, product_of_all([((1, 0, 1), 9)], 3)), False)


class Orders(Case):

    def test_all_short_prime_factors_step_by_step(self):
        for prime, most in {2: 9, 3: 6, 5: 4, 7: 4, 11: 3, 13: 3}.items():
            for many in range(2, most + 1):
                for poly in monics(prime, many):
                    if is_prime_by_trying(poly, prime):
                        self.same(order(prime, poly), order_by_steps(poly, prime))

    def test_longer_ones_step_by_step(self):
        chance = Random(4)
        for prime, many in ((3, 8), (3, 9), (5, 5), (5, 6), (5, 7), (7, 5), (7, 6), (11, 4), (11, 5), (13, 4), (13, 5)):
            poly = self.some_prime(chance, prime, many)
            self.answers(order_by_steps(poly, prime), order, ["prime", "factor"], [prime, poly])

    def test_9_coefficients(self):
        chance = Random(5)
        for prime in PRIMES:
            for _ in range(3):
                self.least(prime, self.some_prime(chance, prime, 9))

    def test_8_coefficients(self):
        chance = Random(6)
        for prime in PRIMES:
            self.least(prime, self.some_prime(chance, prime, 8))

    def test_x_plus_a_number(self):
        for prime in PRIMES:
            for a in range(1, prime):
                found = [n for n in range(1, prime) if pow(-a, n, prime) == 1]
                self.same(order(prime, (a, 1)), found[0])

    def test_sums_of_all_powers(self):
        for n in (3, 5, 7):
            for prime in PRIMES:
                if prime != n and len({prime ** k % n for k in range(n - 1)}) == n - 1:
                    self.same(order(prime, (1,) * n), n)
        self.same([order(p, (1, 0, 0, 1, 0, 0, 1)) for p in (2, 5, 11)], [9, 9, 9])

    def test_x_to_a_power_less_a_number(self):
        for prime, a, n, expected in ((3, 2, 2, 4), (5, 2, 4, 16), (5, 2, 8, 32), (7, 3, 6, 36), (7, 2, 3, 9),
                                      (11, 2, 5, 50), (13, 2, 6, 72), (13, 2, 8, 96), (13, 5, 8, 32)):
            poly = (prime - a, *[0] * (n - 1), 1)
            self.same(order(prime, poly), expected)
            self.same(order_by_steps(poly, prime), expected)

    def some_prime(self, chance, prime, many):
        while True:
            poly = some_monic(chance, prime, many)
            if is_factor(prime, poly):
                return poly

    def least(self, prime, poly):
        """The order leaves 1, and no part of it does."""
        told, one = order(prime, poly), [1] + [0] * (len(poly) - 2)
        self.assertEqual(rest_of_x(told, poly, prime), one)
        for q in primes_in(told):
            self.assertNotEqual(rest_of_x(told // q, poly, prime), one)
