"""Promises 30 and 32 and fact Z1: what is lost on rings of n cells, what comes round, and when, for all n."""

from itertools import product
from math import lcm
from random import Random

from nearadds.rings import coming_dims, first_unlike_ring, longest_tail, loses, losing, nought_dims, ring_round
from nearadds.rings import rounds_of
from nearadds.errors import InvalidNumber
from tests.cases import Case
from tests.worked import FAR, MODULI, PRIMES, coefficients, common_of, cut, left_modulo, least_of_multiples
from tests.worked import nought_rank, order_by_steps, prime_parts_of, product_of, rank_of, rest_of_x, ring_table
from tests.worked import round_behind, some_rule, table_power, tail_and_rank, times

NAMES = ["rule", "n"]
MOST = 10 ** 30


def some_of(chance, m):
    """A rule; now and then one that loses more likely, one that is nought modulo a prime, or one without terms."""
    kind = chance.randrange(8)
    if kind == 0:
        return m, ()
    if kind == 1 and len(MODULI[m]) > 1:
        prime = chance.choice(MODULI[m])
        return m, tuple((d, prime * chance.randrange(1, m // prime)) for d in sorted(chance.sample(range(-4, 5), 3)))
    if kind < 5:
        one = some_rule(chance, m, 0, 2, chance.choice([2, 3]))
        other = some_rule(chance, m, -2, 0, chance.choice([2, 3]))
        third = some_rule(chance, m, 0, 2, chance.choice([1, 2]))
        return product_of(product_of(one, other), third)
    return some_rule(chance, m, many=chance.randint(1, 6))


def tables(rule, n):
    return [(prime, ring_table(rule, n, prime)) for prime in MODULI[rule[0]]]


def dims_of(rule, n):
    return [(prime, nought_rank(table, prime)) for prime, table in tables(rule, n)]


class ByRanks(Case):
    """Rings of few cells: the ranks of the table of a step, and of as many steps as the rank still falls."""

    def judged(self, rule, n):
        dims, tails = [], [tail_and_rank(table, prime) for prime, table in tables(rule, n)]
        dims = dims_of(rule, n)
        self.answers(dims, nought_dims, NAMES, [rule, n])
        self.answers(any(dim for _, dim in dims), loses, NAMES, [rule, n])
        expected = [(prime, rank) for prime, (_, rank) in zip(MODULI[rule[0]], tails)]
        self.answers(expected, coming_dims, NAMES, [rule, n])
        self.answers(max(tail for tail, _ in tails), longest_tail, NAMES, [rule, n])

    def test_any_rules(self):
        chance = Random(1)
        for m in MODULI:
            for n in list(range(1, 15)) + [16, 18, 20]:
                self.judged(some_of(chance, m), n)

    def test_all_rules_of_small_width(self):
        for m, high in ((2, 4), (3, 3), (6, 1)):
            for factors in product(range(m), repeat=high + 1):
                rule = (m, tuple((d, c) for d, c in enumerate(factors) if c))
                for n in (1, 2, 3, 4, 6, 7, 8, 9):
                    self.judged(rule, n)

    def test_no_terms_one_term_and_one_prime_alone(self):
        for m, primes in MODULI.items():
            for n in (1, 2, 5, 12):
                self.judged((m, ()), n)
                self.judged((m, ((3, m - 1),)), n)
                for prime in primes:
                    self.judged((m, tuple((d, m // prime) for d in (-1, 0, 1))), n)
                    self.judged((m, ((-4, m // prime),)), n)

    def test_wider_than_the_ring(self):
        chance = Random(2)
        for m in MODULI:
            for n in (1, 2, 3):
                self.judged((m, ((-4, 1), (4, m - 1))), n)
                self.judged((m, tuple((d, 1) for d in range(-4, 5))), n)
                self.judged(some_rule(chance, m, many=6), n)

    def test_powers_of_a_prime(self):
        for prime in PRIMES:
            for n in [n for n in (2, 3, 4, 5, 7, 8, 9, 11, 13, 16, 25, 27) if n % prime == 0]:
                self.judged((prime, ((-1, prime - 1), (0, 1))), n)
                self.judged((prime, ((-1, 1), (0, prime - 2), (1, 1)) if prime > 2 else ((-1, 1), (1, 1))), n)

    def test_losing(self):
        chance = Random(3)
        for m in MODULI:
            for _ in range(6):
                rule = some_of(chance, m)
                told = losing(rule)
                self.answers(told, losing, ["rule"], [rule])
                found = [n for n in range(1, 21) if any(dim for _, dim in dims_of(rule, n))]
                self.same([n for n in told if n <= 20], least_of_multiples(found))
                for n in range(1, 21):
                    self.same(n in found, any(n % number == 0 for number in told))
                self.judged_numbers(told)

    def judged_numbers(self, told):
        self.same(told, least_of_multiples(told))
        self.assertTrue(all(type(number) is int and number > 0 for number in told))


def orders_of(parts, prime):
    return [order_by_steps(part, prime) for part in parts]


class Losing(Case):

    def test_orders_of_known_factors(self):
        for prime, parts in ((2, [(1, 1, 1), (1, 1, 0, 1)]), (2, [(1, 0, 0, 1, 1), (1, 1, 1)]),
                             (2, [(1, 0, 1, 1, 1, 0, 0, 0, 1)]), (3, [(1, 0, 1), (2, 1, 1), (1, 1)]),
                             (5, [(2, 1), (4, 1), (2, 0, 1)]), (7, [(1, 0, 1), (2, 1), (2, 1)]),
                             (11, [(7, 1, 1), (1, 1)]), (13, [(2, 1, 1), (2, 1), (3, 1)])):
            whole = (1,)
            for part in parts:
                whole = times(whole, part, prime)
            for by, factor in ((0, 1), (-4, prime - 1), (-2, 1)):
                rule = (prime, tuple((k + by, c * factor % prime) for k, c in enumerate(whole) if c))
                self.same(losing(rule), least_of_multiples(orders_of(parts, prime)))

    def test_of_two_primes(self):
        # Modulo 2 three cells side by side, modulo 3 two: the orders are 3 and 2.
        self.same(losing((6, ((-1, 3), (0, 1), (1, 1)))), [2, 3])
        self.same(losing((6, ((-1, 3), (0, 3), (1, 3)))), [1])
        self.same(losing((6, ((0, 4),))), [1])
        self.same(losing((6, ((0, 5),))), [])
        self.same(losing((15, ((0, 1), (1, 1)))), [2])
        self.same(losing((10, ((0, 1), (1, 1)))), [1])

    def test_none_and_all(self):
        for m, primes in MODULI.items():
            self.same(losing((m, ())), [1])
            self.same(losing((m, ((-4, m - 1),))), [])
            self.same(losing((m, ((0, 1), (4, m - 1)))), [1])
            for prime in primes:
                self.same(losing((m, ((0, prime),) if prime < m else ())), [1])

    def test_the_greatest_orders(self):
        for prime, poly in GREAT.items():
            n = prime ** (len(poly) - 1) - 1
            for by in (-4, -8 + 4):
                rule = (prime, tuple((k + by, c) for k, c in enumerate(poly) if c))
                self.same(losing(rule), [n])
                for much in (1, 3, prime, prime ** 5, MOST // n):
                    self.same(loses(rule, n * much), True)
                    self.same(loses(rule, n * much + 1), False)
                    self.same(loses(rule, n * much - 1), False)
                for q in prime_parts_of(prime + 1) + prime_parts_of(prime - 1):
                    if n % q == 0:
                        self.same(loses(rule, n // q), False)

    def test_new_at_each_call(self):
        rule = (6, ((-1, 3), (0, 1), (1, 1)))
        for call, passed in ((losing, [rule]), (nought_dims, [rule, 6]), (coming_dims, [rule, 6]),
                             (rounds_of, [rule, 4])):
            first = call(*passed)
            expected = list(first)
            first.append(None)
            self.same(call(*passed), expected)


def great_poly(prime):
    """A polynomial with 9 coefficients of which the order is the greatest one, found by trying."""
    chance, many = Random(prime), prime ** 8 - 1
    one = [1] + [0] * 7
    parts = [q for q in (2, 3, 5, 7, 11, 13, 17, 29, 37, 41, 61, 73, 193, 313, 1201, 7321, 14281) if many % q == 0]
    rest = many
    for q in parts:
        while rest % q == 0:
            rest //= q
    assert rest == 1, (prime, rest)
    while True:
        poly = (chance.randrange(1, prime), *[chance.randrange(prime) for _ in range(7)], 1)
        if rest_of_x(many, poly, prime) == one and all(rest_of_x(many // q, poly, prime) != one for q in parts):
            return poly


GREAT = {prime: great_poly(prime) for prime in PRIMES}


def common_with_ring(poly, n, prime):
    """The dimension of what a polynomial, not nought, makes 0 on a ring: its common part with x ** n - 1."""
    share = pow(poly[-1], -1, prime)
    poly = tuple(value * share % prime for value in poly)
    if len(poly) == 1:
        return 0
    left = rest_of_x(n, poly, prime)
    return len(common_of(poly, [(left[0] - 1) % prime] + left[1:], prime)) - 1


def share_in(n, prime):
    share = 1
    while n % (share * prime) == 0:
        share *= prime
    return share


class GreatRings(Case):

    def numbers(self, chance, rule):
        m = rule[0]
        for prime in MODULI[m]:
            powers = [prime ** k for k in (1, 2, 3, 5, 7, 8)] + [prime ** 26]
            for power in [power for power in powers if power < MOST]:
                yield from (power, power - 1, power + 1)
        for number in losing(rule):
            for much in (1, 2, chance.randint(1, 1000), chance.randint(1, MOST // number), MOST // number):
                yield from (number * much, number * much + 1, number * much - 1)
        yield from (MOST, MOST - 1, 2 ** 99, 3 ** 62, 13 ** 26, chance.randint(1, MOST))

    def test_what_is_lost(self):
        chance = Random(11)
        for m in MODULI:
            for _ in range(3):
                rule = some_of(chance, m)
                for n in self.numbers(chance, rule):
                    if n > 0:
                        expected = []
                        for prime in MODULI[m]:
                            poly = coefficients(rule, prime)
                            expected.append((prime, common_with_ring(poly, n, prime) if poly else n))
                        self.same(nought_dims(rule, n), expected)
                        self.same(loses(rule, n), any(dim for _, dim in expected))

    def test_what_comes_round(self):
        # What as many steps as the share of the prime leave is all that comes round.
        chance = Random(12)
        for prime in PRIMES:
            for _ in range(2):
                rule = some_rule(chance, prime, -2, 2, 4)
                tried = [much * number * prime ** k + more for number in losing(rule) for much in (1, 5, MOST // number)
                         for k in (0, 1, 2) for more in (-1, 0, 1)] + [MOST, MOST - 1, prime ** 2]
                for n in [n for n in tried if 0 < n and share_in(n, prime) < 14]:
                    poly, lost = coefficients(rule, prime), []
                    made = (1,)
                    for _ in range(share_in(n, prime) + 1):
                        made = cut(times(made, poly, prime))
                        lost.append(common_with_ring(made, n, prime))
                    self.same(coming_dims(rule, n), [(prime, n - lost[-1])])
                    tail = [0] + [k + 1 for k in range(1, len(lost)) if lost[k] > lost[k - 1]] + [1] * (lost[0] > 0)
                    self.same(longest_tail(rule, n), max(tail))

    def test_great_powers_of_a_prime(self):
        # x ** n - 1 is a power of x - 1: all is lost, or nothing.
        for prime in PRIMES:
            one, n = (prime - 1, 1), 1
            while n <= MOST:
                poly = (1,)
                for often in range(1, 9):
                    poly = times(poly, one, prime)
                    rule = (prime, tuple((k - 4, c) for k, c in enumerate(poly) if c))
                    self.same(coming_dims(rule, n), [(prime, 0)])
                    self.same(nought_dims(rule, n), [(prime, min(often, n))])
                    self.same(longest_tail(rule, n), (n + often - 1) // often)
                self.same(coming_dims((prime, ((0, 1), (1, 1), (2, prime - 1))), n), [(prime, n)])
                self.same(longest_tail((prime, ((0, 1), (1, 1), (2, prime - 1))), n), 0)
                n *= prime

    def test_great_rings_of_two_primes(self):
        rule = (6, ((0, 1), (1, 5)))
        for a, b in product((0, 1, 5, 20), (0, 1, 4, 12)):
            n = 2 ** a * 3 ** b * 35
            self.same(coming_dims(rule, n), [(2, n - 2 ** a), (3, n - 3 ** b)])
            self.same(nought_dims(rule, n), [(2, 1), (3, 1)])
            self.same(longest_tail(rule, n), max(2 ** a, 3 ** b))
        # Nought modulo 2 alone, modulo 3 one term.
        for n in (1, 7, MOST):
            self.same(nought_dims((6, ((0, 2),)), n), [(2, n), (3, 0)])
            self.same(coming_dims((6, ((0, 2),)), n), [(2, 0), (3, n)])
            self.same(longest_tail((6, ((0, 2),)), n), 1)
            self.same(nought_dims((6, ()), n), [(2, n), (3, n)])
            self.same(coming_dims((6, ()), n), [(2, 0), (3, 0)])
            self.same(longest_tail((6, ()), n), 1)

    def test_numbers_below_1(self):
        for m in MODULI:
            for n in (0, -1, -12, -FAR):
                for call in (loses, nought_dims, coming_dims, longest_tail, ring_round, rounds_of):
                    self.refused_both(InvalidNumber, n, call, NAMES, [(m, ((0, 1),)), n])


class UnlikeRings(Case):

    def by_ranks(self, one, other, most):
        for n in range(1, most + 1):
            if dims_of(one, n) != dims_of(other, n):
                return n
        return None

    def test_by_ranks(self):
        chance, seen = Random(21), set()
        for m in MODULI:
            for _ in range(20):
                one, other = some_of(chance, m), some_of(chance, m)
                if chance.randrange(2):
                    one, other = product_of(one, (m, ((0, 1), (1, 1)))), product_of(one, (m, ((0, 1), (1, m - 1))))
                told = first_unlike_ring(one, other)
                expected = self.by_ranks(one, other, 14)
                seen.add(expected)
                if expected is not None:
                    self.answers(expected, first_unlike_ring, ["one", "other"], [one, other])
                    self.answers(expected, first_unlike_ring, ["one", "other"], [other, one])
                else:
                    self.assertTrue(told is None or told > 14)
                    self.same(first_unlike_ring(other, one), told)
                    if told is not None and told < 60:
                        self.assertNotEqual(dims_of(one, told), dims_of(other, told))
                        for n in range(15, told):
                            self.assertEqual(dims_of(one, n), dims_of(other, n))
        self.assertGreater(len(seen), 5)

    def test_powers_of_one_factor(self):
        for prime, part in ((2, (1, 1)), (2, (1, 1, 1)), (2, (1, 1, 0, 1)), (3, (1, 1)), (3, (1, 0, 1)), (3, (2, 1)),
                            (5, (1, 1)), (7, (6, 1)), (2, (1, 0, 0, 1, 1))):
            most = 8 // (len(part) - 1)
            powers = [(1,)]
            for _ in range(most):
                powers.append(times(powers[-1], part, prime))
            turns = order_by_steps(part, prime)
            for a, b in product(range(most + 1), repeat=2):
                one, other = [(prime, tuple((d - 4, c) for d, c in enumerate(powers[k]) if c)) for k in (a, b)]
                share = 1
                while share <= min(a, b):
                    share *= prime
                # Both count alike as long as the share of the prime is not above the lesser times.
                self.same(first_unlike_ring(one, other), None if a == b else turns * share)

    def test_never(self):
        for m in MODULI:
            rule = (m, ((-4, 1), (0, 1), (3, m - 1)))
            moved = (m, tuple((d + 1, (m - 1) * c % m) for d, c in rule[1]))
            self.same(first_unlike_ring(rule, rule), None)
            self.same(first_unlike_ring(rule, moved), None)
            self.same(first_unlike_ring((m, ()), (m, ())), None)
            self.same(first_unlike_ring((m, ((-4, 1),)), (m, ((4, m - 1),))), None)
        # Two prime factors of one order and with as many coefficients.
        self.same(first_unlike_ring((2, ((0, 1), (1, 1), (3, 1))), (2, ((0, 1), (2, 1), (3, 1)))), None)
        self.same(first_unlike_ring((3, ((0, 2), (1, 1), (2, 1))), (3, ((0, 2), (1, 2), (2, 1)))), None)
        self.same(first_unlike_ring((13, ((0, 11), (1, 1))), (13, ((0, 7), (1, 1)))), None)

    def test_one_nought(self):
        for m, primes in MODULI.items():
            self.same(first_unlike_ring((m, ()), (m, ((0, 1),))), 1)
            self.same(first_unlike_ring((m, ((0, m - 1), (1, 1))), (m, ())), 2)
            for many in range(1, 9):
                # x ** many - 1 makes all 0 on the rings of as many cells and of those that divide them.
                found = first_unlike_ring((m, ((-4, m - 1), (many - 4, 1))), (m, ()))
                self.same(found, [n for n in range(1, 20) if many % n][0])
            for prime in primes:
                if prime < m:
                    one = (m, ((0, m // prime),))
                    self.same(first_unlike_ring(one, (m, ())), 1)
                    self.same(first_unlike_ring(one, (m, ((0, 1),))), 1)

    def test_greater_than_all_that_is_tried(self):
        for prime, poly in GREAT.items():
            rule = (prime, tuple((k - 4, c) for k, c in enumerate(poly) if c))
            self.same(first_unlike_ring(rule, (prime, ((0, 1),))), prime ** 8 - 1)
            turned = (prime, tuple(sorted((-d, c) for d, c in rule[1])))
            self.same(first_unlike_ring(rule, turned), None)
        # Of two prime factors of unlike orders the lesser order counts; behind it come the products with the prime.
        one, other = times((1, 0, 1, 1), (1, 0, 0, 1, 1), 2), times((1, 0, 1, 1), (1, 1, 1, 1, 1), 2)
        rules = [(2, tuple((k - 4, c) for k, c in enumerate(poly) if c)) for poly in (one, other)]
        self.same(first_unlike_ring(*rules), 5)
        self.same(first_unlike_ring(rules[0], (2, ((0, 1), (1, 1), (3, 1)))), 15)
        for prime, part in ((2, (1, 0, 0, 1, 1)), (3, (2, 1, 0, 0, 1)), (13, (2, 1, 1))):
            turns = order_by_steps(part, prime)
            twice = times(part, part, prime)
            one, other = [(prime, tuple((k - 4, c) for k, c in enumerate(poly) if c)) for poly in (part, twice)]
            self.same(first_unlike_ring(one, other), turns * prime)


class Rounds(Case):

    def walked(self, rule, n):
        """How many steps each round row of few cells takes to come again, all walked."""
        m, found = rule[0], {}
        for values in product(range(m), repeat=n):
            seen, row = {}, (m, values)
            while row not in seen:
                seen[row] = len(seen)
                row = round_behind(rule, row)
            if row == (m, values):
                found[len(seen)] = found.get(len(seen), 0) + 1
        return sorted(found.items())

    def test_all_round_rows_walked(self):
        chance = Random(31)
        for m in MODULI:
            for n in [n for n in range(1, 10) if m ** n <= 600]:
                for rule in [some_of(chance, m) for _ in range(5)] + [(m, ()), (m, ((1, 1),)), (m, ((0, m - 1),))]:
                    expected = self.walked(rule, n)
                    self.answers(expected, rounds_of, NAMES, [rule, n])
                    self.answers(lcm(*[length for length, _ in expected]), ring_round, NAMES, [rule, n])

    def test_all_rules_walked(self):
        for m, n, high in ((2, 4, 3), (2, 6, 3), (3, 3, 2), (6, 2, 1), (5, 2, 1)):
            for factors in product(range(m), repeat=high + 1):
                rule = (m, tuple((d, c) for d, c in enumerate(factors) if c))
                self.same(rounds_of(rule, n), self.walked(rule, n))

    def judged(self, rule, n):
        """By how many rows the tables of so many steps leave as they are."""
        m, told = rule[0], rounds_of(rule, n)
        self.same(told, sorted(told))
        lengths = [length for length, _ in told]
        self.assertEqual(len(lengths), len(set(lengths)))
        self.assertTrue(all(type(number) is int and number > 0 for _, number in told))
        tables_told = tables(rule, n)
        for length in lengths:
            number = sum(number for turns, number in told if length % turns == 0)
            self.assertEqual(number, self.left_alone(tables_told, length))
        coming = 1
        for prime, table in tables_told:
            coming *= prime ** tail_and_rank(table, prime)[1]
        self.assertEqual(sum(number for _, number in told), coming)
        self.answers(lcm(*lengths), ring_round, NAMES, [rule, n])
        self.judged_round(tables_told, ring_round(rule, n))

    def left_alone(self, tables_told, length):
        number = 1
        for prime, table in tables_told:
            many = len(table)
            power = table_power(table, length, prime)
            less = [[power[k][j] - int(k == j) for j in range(many)] for k in range(many)]
            number *= prime ** (many - rank_of(less, prime))
        return number

    def judged_round(self, tables_told, told):
        """So many steps leave all that comes round as it was, and no part of them does."""
        def leaves(steps):
            for prime, table in tables_told:
                tail = table_power(table, len(table), prime)
                if table_power(table, len(table) + steps, prime) != tail:
                    return False
            return True
        self.assertTrue(leaves(told))
        rest, q = told, 2
        while rest > 1:
            if rest % q == 0:
                self.assertFalse(leaves(told // q))
                while rest % q == 0:
                    rest //= q
            q = q + 1 if q * q <= rest else rest

    def test_to_12_cells(self):
        chance = Random(32)
        for m in MODULI:
            for n in (5, 7, 8, 9, 10, 11, 12):
                self.judged(some_of(chance, m), n)
            self.judged((m, ((-1, 1), (0, 1), (1, 1))), 12)
            self.judged((m, ((-4, 1), (1, m - 1), (4, 1))), 12)

    def test_11_cells_modulo_13(self):
        # One prime factor with 11 coefficients: rows that are first the same behind up to 13 ** 10 - 1 steps.
        chance = Random(33)
        for m in (7, 13, 14):
            for _ in range(3):
                self.judged(some_rule(chance, m, many=5), 11)

    def test_nought_and_one_cell(self):
        for m, primes in MODULI.items():
            for n in (1, 2, 12):
                self.same(rounds_of((m, ()), n), [(1, 1)])
                self.same(ring_round((m, ()), n), 1)
                self.same(rounds_of((m, ((0, 1),)), n), [(1, m ** n)])
            self.same(rounds_of((m, ((4, 1),)), 1), [(1, m)])
            for factor in range(1, m):
                rule = (m, ((-3, factor),))
                self.same(rounds_of(rule, 1), self.walked(rule, 1))
                self.same(ring_round(rule, 1), max(length for length, _ in self.walked(rule, 1)))

    def test_moving(self):
        # Rows of 12 cells that are moved by one: as many as have no shorter round.
        self.same(rounds_of((2, ((1, 1),)), 12), [(1, 2), (2, 2), (3, 6), (4, 12), (6, 54), (12, 4020)])
        self.same(rounds_of((15, ((-1, 1),)), 2), [(1, 15), (2, 210)])
        for m in MODULI:
            self.same(ring_round((m, ((1, 1),)), 12), 12)
            self.same(ring_round((m, ((4, 1),)), 12), 3)
            self.same(sum(number for _, number in rounds_of((m, ((1, 1),)), 12)), m ** 12)


class Kept(Case):

    def test_left_modulo_is_what_counts(self):
        # A rule of a composite modulus tells modulo each prime what the rule of the prime tells.
        chance = Random(41)
        for m in (6, 10, 14, 15):
            for _ in range(5):
                rule, n = some_of(chance, m), chance.randint(1, 10 ** 6)
                parts = [(prime, (prime, left_modulo(rule, prime))) for prime in MODULI[m]]
                self.same(nought_dims(rule, n), [nought_dims(part, n)[0] for _, part in parts])
                self.same(coming_dims(rule, n), [coming_dims(part, n)[0] for _, part in parts])
                self.same(longest_tail(rule, n), max(longest_tail(part, n) for _, part in parts))
