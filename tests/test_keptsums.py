"""Promise 34: weights that rules multiply by a factor, and the sums that they keep."""

from itertools import product
from math import lcm
from random import Random

from nearadds.errors import InvalidCells, InvalidNumber, InvalidRow, InvalidRule, Unlike
from nearadds.keptsums import all_round_weights, free_weights, ring_weights, weight, weight_rings, weighted
from nearadds.keptsums import weights_round
from tests.cases import Case
from tests.worked import FAR, MODULI, PRIMES, by_remainders, kept_by, least_of_multiples, left_modulo, odd_objects
from tests.worked import order_by_steps, rank_of, rest_of_x, row_behind, some_row, some_rule, spoiled, sum_of, times
from tests.worked import told_integer, told_rule, told_tuple, walked

VALUES, PLACE, TOLD = ["rule", "factor", "values"], ["rule", "factor", "values", "place"], ["rule", "factor", "n"]
ROW = ["rule", "factor", "values", "row"]
MOST = 10 ** 30


def less(rule, factor):
    """The rule less the factor, term by term."""
    return sum_of(rule, (rule[0], ((0, -factor % rule[0]),)))


def fits(rule, factor):
    """Whether the ends of the rule less the factor are unlike and stay modulo each prime."""
    terms = less(rule, factor)[1]
    parts = [left_modulo((rule[0], terms), prime) for prime in MODULI[rule[0]]]
    if not all(parts):
        return False
    whole = (terms[0][0], terms[-1][0])
    return whole[0] != whole[1] and all((part[0][0], part[-1][0]) == whole for part in parts)


def some_fit(chance, m, least=-4, greatest=4):
    """A rule and a factor with which the first weights tell all."""
    while True:
        rule, factor = some_rule(chance, m, least, greatest), chance.randrange(m)
        if chance.randrange(3) == 0:
            factor = chance.choice([0, 1, m - 1])
        if fits(rule, factor):
            return rule, factor


def wide(rule, factor):
    terms = less(rule, factor)[1]
    return terms[-1][0] - terms[0][0]


def some_values(chance, m, many):
    values = [chance.randrange(m) for _ in range(many)]
    return tuple(value * chance.choice([0, 1, 1]) for value in values)


def weights_of(rule, factor, values, low, high):
    """All weights of places from low to high, each told by its neighbours, modulo each prime and then together."""
    m, parts = rule[0], []
    for prime in MODULI[m]:
        sums = [(-d, c) for d, c in left_modulo(less(rule, factor), prime)][::-1]
        cells = walked(sums, [value % prime for value in values], low, high, prime)
        assert kept_by(sums, cells, low, high, prime)
        parts.append(cells)
    return {at: by_remainders(m, [cells[at] for cells in parts]) for at in range(low, high + 1)}


class Weights(Case):

    def test_place_by_place_on_both_sides(self):
        chance = Random(1)
        for m in MODULI:
            for _ in range(12):
                rule, factor = some_fit(chance, m)
                values = some_values(chance, m, wide(rule, factor))
                self.answers(len(values), free_weights, ["rule", "factor"], [rule, factor])
                cells = weights_of(rule, factor, values, -60, 60)
                for place in range(-15, 16):
                    self.same(weight(rule, factor, values, place), cells[place])
                for place in (-60, -59, 59, 60):
                    self.answers(cells[place], weight, PLACE, [rule, factor, values, place])

    def test_the_sum_is_multiplied_by_each_step(self):
        chance = Random(2)
        for m in MODULI:
            for _ in range(6):
                rule, factor = some_fit(chance, m)
                values = some_values(chance, m, wide(rule, factor))
                cells = weights_of(rule, factor, values, -80, 80)
                for row in (some_row(chance, m), some_row(chance, m, 3, -30, 30), (m, ()), (m, ((7, m - 1),))):
                    total = sum(cells[place] * value for place, value in row[1]) % m
                    self.answers(total, weighted, ROW, [rule, factor, values, row])
                    behind = row_behind(rule, row)
                    self.same(weighted(rule, factor, values, behind), factor * total % m)
                    self.same(sum(cells[place] * value for place, value in behind[1]) % m, factor * total % m)

    def test_rows_far_on(self):
        chance = Random(3)
        for m in MODULI:
            rule, factor = some_fit(chance, m)
            values = (m - 1,) + (1,) * (wide(rule, factor) - 1)
            for near in (FAR - 30, -FAR + 30, 10 ** 50):
                row = some_row(chance, m, 30, near)
                total = sum(weight(rule, factor, values, place) * value for place, value in row[1]) % m
                self.same(weighted(rule, factor, values, row), total)
                self.same(weighted(rule, factor, values, row_behind(rule, row)), factor * total % m)

    def test_places_of_sixty_digits(self):
        # By the length of the round where it is short, else by squares of x.
        chance = Random(4)
        for m in MODULI:
            for _ in range(6):
                rule, factor = some_fit(chance, m, -1, 1)
                values = some_values(chance, m, wide(rule, factor))
                cells = weights_of(rule, factor, values, 0, 3000)
                turns = self.first_again(cells, values, 2900)
                if turns is not None:
                    for place in (FAR, -FAR, 10 ** 50, chance.randint(-FAR, FAR)):
                        self.same(weight(rule, factor, values, place), cells[place % turns])

    def first_again(self, cells, values, most):
        many = len(values)
        for n in range(1, most):
            if [cells[n + k] for k in range(many)] == list(values):
                return n
        return None

    def test_places_of_sixty_digits_by_squares(self):
        chance = Random(5)
        for m in MODULI:
            for _ in range(3):
                rule, factor = some_fit(chance, m)
                values = some_values(chance, m, wide(rule, factor))
                for place in (FAR, FAR - chance.randint(0, 10 ** 55), 10 ** 59):
                    rests = []
                    for prime in MODULI[m]:
                        rest = rest_of_x(place, poly_of(rule, factor, prime), prime)
                        rests.append(sum(value * much for value, much in zip(values, rest)) % prime)
                    self.same(weight(rule, factor, values, place), by_remainders(m, rests))

    def test_far_weights_side_by_side(self):
        chance = Random(6)
        for m in MODULI:
            rule, factor = some_fit(chance, m)
            values = some_values(chance, m, wide(rule, factor))
            for near in (FAR, -FAR - 30):
                cells = {near + k: weight(rule, factor, values, near + k) for k in range(30)}
                for j in range(near + 8, near + 22):
                    total = sum(c * cells[j - d] for d, c in rule[1]) % m
                    self.same(total, factor * cells[j] % m)

    def test_rounds(self):
        chance = Random(7)
        for m in MODULI:
            tried = 0
            while tried < 8:
                rule, factor = some_fit(chance, m, -1, 1) if m > 3 else some_fit(chance, m, -2, 2)
                values = some_values(chance, m, wide(rule, factor))
                turns = self.first_again(weights_of(rule, factor, values, 0, 1500), values, 1400)
                if turns is not None:
                    tried += 1
                    self.answers(turns, weights_round, VALUES, [rule, factor, values])

    def test_rounds_of_all_values(self):
        for m, terms, factor in ((2, ((-1, 1), (1, 1)), 0), (2, ((-2, 1), (0, 1), (2, 1)), 1), (3, ((0, 1), (2, 1)), 2),
                                 (5, ((-1, 1), (0, 3)), 1), (6, ((0, 5), (1, 1)), 0), (6, ((-1, 1), (0, 5), (1, 5)), 3),
                                 (2, ((-2, 1), (0, 1), (1, 1), (2, 1)), 1), (3, ((-1, 1), (0, 1), (2, 1)), 0)):
            rule = (m, terms)
            for values in product(range(m), repeat=wide(rule, factor)):
                cells = weights_of(rule, factor, values, 0, 200)
                self.same(weights_round(rule, factor, values), self.first_again(cells, values, 190))

    def test_long_rounds(self):
        for prime, poly in ((2, (1, 0, 1, 1, 1, 0, 0, 0, 1)), (3, (1, 0, 2, 1, 0, 1)), (13, (2, 1, 1))):
            turns = order_by_steps(poly, prime)
            for shift in (0, -4):
                # Such that the rule less 1 is the polynomial.
                terms = dict((k + shift, c) for k, c in enumerate(poly))
                terms[0] = (terms.get(0, 0) + 1) % prime
                rule = (prime, tuple((d, c) for d, c in sorted(terms.items()) if c))
                values = (0,) * (len(poly) - 2) + (1,)
                self.same(weights_round(rule, 1, values), turns)
                self.same(weight(rule, 1, values, turns * (FAR // turns) - 1 + len(poly) - 1), 1)
                self.same(weights_round(rule, 1, (0,) * (len(poly) - 1)), 1)

    def test_rounds_of_two_primes(self):
        # Modulo 2 the weights come again behind 3 places, modulo 3 behind 4.
        rule = (6, ((-1, 1), (0, 3), (1, 1)))
        self.same(weights_round(rule, 0, (3, 0)), 3)
        self.same(weights_round(rule, 0, (2, 0)), 4)
        self.same(weights_round(rule, 0, (1, 0)), 12)
        self.same(weights_round(rule, 0, (0, 0)), 1)

    def test_the_very_limits(self):
        chance = Random(8)
        for m in MODULI:
            rule = (m, tuple((d, 1 + (d * d) % (m - 1)) for d in range(-4, 5)))
            factor = (dict(rule[1])[0] + 1) % m
            if not fits(rule, factor):
                continue
            values = some_values(chance, m, 8)
            places = [-FAR + 7 * k for k in range(10)] + list(range(-5, 5)) + [FAR - 9 + k for k in range(10)]
            row = (m, tuple((place, 1 + k % (m - 1)) for k, place in enumerate(places)))
            self.same(free_weights(rule, factor), 8)
            total = sum(weight(rule, factor, values, place) * value for place, value in row[1]) % m
            self.same(weighted(rule, factor, values, row), total)
            self.same(weighted(rule, factor, values, row_behind(rule, row)), factor * total % m)
            turns = weights_round(rule, factor, values)
            for k, value in enumerate(values):
                self.same(weight(rule, factor, values, turns * (10 ** 59 // turns) + k), value)


def poly_of(rule, factor, prime):
    """What the sums of weights are made of, with the last coefficient 1."""
    terms = dict((-d, c) for d, c in left_modulo(less(rule, factor), prime))
    share = pow(terms[max(terms)], -1, prime)
    return tuple(terms.get(k, 0) * share % prime for k in range(min(terms), max(terms) + 1))


def ring_sums(rule, factor, n, prime):
    """For each place of a ring the row of what weights are multiplied by there to make 0."""
    rows = []
    for j in range(n):
        row = [0] * n
        for d, c in left_modulo(rule, prime):
            row[(j - d) % n] += c
        row[j] -= factor
        rows.append([value % prime for value in row])
    return rows


class Rings(Case):

    def test_dimensions_by_elimination(self):
        chance = Random(11)
        for m in MODULI:
            for n in list(range(1, 13)) + [16, 24]:
                rule, factor = some_rule(chance, m), chance.randrange(m)
                if chance.randrange(3) == 0:
                    # The sum of all cells is kept or multiplied by this.
                    factor = sum(c for _, c in rule[1]) % m
                expected = [(p, n - rank_of(ring_sums(rule, factor, n, p), p)) for p in MODULI[m]]
                self.answers(expected, ring_weights, TOLD, [rule, factor, n])

    def test_rings_with_weights(self):
        chance = Random(12)
        for m in MODULI:
            for k in range(8):
                rule, factor = some_rule(chance, m), chance.randrange(m)
                if k % 2:
                    factor = sum(c for _, c in rule[1]) % m
                told = weight_rings(rule, factor)
                self.answers(told, weight_rings, ["rule", "factor"], [rule, factor])
                for n in range(1, 17):
                    some = [p for p in MODULI[m] if rank_of(ring_sums(rule, factor, n, p), p) < n]
                    self.same(bool(some), any(n % number == 0 for number in told))
                self.same(told, least_of_multiples(told))

    def test_each_factor(self):
        for m in MODULI:
            rule = (m, ((-1, 1), (0, m - 1), (2, 1)))
            for factor in range(m):
                expected = [(p, 6 - rank_of(ring_sums(rule, factor, 6, p), p)) for p in MODULI[m]]
                self.same(ring_weights(rule, factor, 6), expected)
                if fits(rule, factor):
                    self.same(free_weights(rule, factor), wide(rule, factor))

    def test_of_the_rule_itself_less_nothing(self):
        for m in MODULI:
            # The rule that multiplies by a factor multiplies all weights by it.
            for factor in range(m):
                rule = (m, ((0, factor),) if factor else ())
                for n in (1, 5, MOST):
                    self.same(ring_weights(rule, factor, n), [(p, n) for p in MODULI[m]])
                    other = [(p, n if (factor - 1) % p == 0 else 0) for p in MODULI[m]]
                    self.same(ring_weights(rule, 1, n), other)
                self.same(weight_rings(rule, factor), [1])
            self.same(weight_rings((m, ((0, 1),)), 0), [])
            self.same(weight_rings((m, ()), 1), [])
            self.same(weight_rings((m, ()), 0), [1])

    def test_great_rings(self):
        for m in MODULI:
            # Less 1 this is x less 1: the sum of all cells is kept, on each ring this alone.
            rule = (m, ((1, 1),))
            for n in (1, 2, 6, 30, MOST, MOST - 1, 2 ** 99, 3 ** 62, 13 ** 26):
                self.same(ring_weights(rule, 1, n), [(p, 1) for p in MODULI[m]])
                twice = (m, ((1, 2 % m), (2, m - 1))) if m > 2 else (2, ((2, 1),))
                self.same(ring_weights(twice, 1, n), [(p, 2 if n % p == 0 else 1) for p in MODULI[m]])
            self.same(weight_rings(rule, 1), [1])
        three = (2, ((-1, 1), (0, 1), (1, 1)))
        self.same(weight_rings(three, 0), [3])
        for n, dim in ((3 * 10 ** 29, 4), (3 ** 60, 2), (10 ** 30, 0), (6 * 7 ** 30, 4), (3 * 7 ** 30, 2)):
            self.same(ring_weights(three, 0, n), [(2, min(dim, 2))])
            self.same(ring_weights((2, ((-2, 1), (0, 1), (2, 1))), 0, n), [(2, dim)])

    def test_new_at_each_call(self):
        three = (2, ((-1, 1), (0, 1), (1, 1)))
        for call, passed in ((ring_weights, [three, 0, 6]), (weight_rings, [three, 0]),
                             (all_round_weights, [three, 1, 4])):
            first = call(*passed)
            expected = [list(part) if type(part) is list else part for part in first]
            for part in first:
                if type(part) is list:
                    part.append(None)
            first.append(None)
            self.same(call(*passed), expected)


class AllRoundWeights(Case):

    def judged(self, rule, factor, n):
        prime = rule[0]
        told = all_round_weights(rule, factor, n)
        self.answers(told, all_round_weights, TOLD, [rule, factor, n])
        sums = ring_sums(rule, factor, n, prime)
        self.assertEqual(len(told), n - rank_of(sums, prime))
        self.assertIs(type(told), list)
        firsts = []
        for row in told:
            self.assertTrue(type(row) is list and len(row) == n and all(told_integer(v, 0, prime - 1) for v in row))
            self.assertFalse(any(sum(a * b for a, b in zip(line, row)) % prime for line in sums))
            firsts.append([k for k, value in enumerate(row) if value][0])
            self.assertEqual(row[firsts[-1]], 1)
        self.assertEqual(firsts, sorted(set(firsts)))
        for row, first in zip(told, firsts):
            self.assertEqual([row[k] for k in firsts], [int(k == first) for k in firsts])

    def test_by_elimination(self):
        chance = Random(21)
        for prime in PRIMES:
            for n in list(range(1, 13)) + [18, 24]:
                rule, factor = some_rule(chance, prime), chance.randrange(prime)
                self.judged(rule, factor, n)
                self.judged(rule, sum(c for _, c in rule[1]) % prime, n)

    def test_known_ones(self):
        for prime in PRIMES:
            still, moving = (prime, ((0, 1),)), (prime, ((1, 1),))
            for n in (1, 2, 3, 24):
                self.same(all_round_weights(still, 1, n), [[int(k == j) for k in range(n)] for j in range(n)])
                self.same(all_round_weights(still, 0, n), [])
                self.same(all_round_weights(moving, 1, n), [[1] * n])
                self.same(all_round_weights(moving, 0, n), [])
                self.same(all_round_weights((prime, ()), 0, n), [[int(k == j) for k in range(n)] for j in range(n)])
            expected = [[int(k % 3 == j) for k in range(24)] for j in range(3)]
            self.same(all_round_weights((prime, ((3, 1),)), 1, 24), expected)
            self.same(all_round_weights((prime, ((-3, 1),)), 1, 24), expected)

    def test_those_of_a_rule_that_moves(self):
        # The weight at j is the factor times that at j - 1, or the other way round.
        self.same(all_round_weights((5, ((1, 1),)), 2, 4), [[1, 3, 4, 2]])
        self.same(all_round_weights((5, ((-1, 1),)), 2, 4), [[1, 2, 4, 3]])

    def test_wider_than_the_ring(self):
        chance = Random(22)
        for prime in PRIMES:
            for n in (1, 2, 3):
                self.judged((prime, ((-4, 1), (4, prime - 1))), 0, n)
                self.judged(some_rule(chance, prime, many=8), chance.randrange(prime), n)


class Refused(Case):

    GOOD = (6, ((-1, 1), (1, 5)))

    def test_factors(self):
        for m in MODULI:
            rule = (m, ((-1, 1), (1, m - 1)))
            for bad in (-1, m, m + 1, -m, 2 * m, FAR, -FAR):
                for odd in ((0, 0), (0, m), None, ()):
                    self.refused_both(InvalidNumber, bad, weight, PLACE, [rule, bad, odd, 5])
                    self.refused_both(InvalidNumber, bad, weighted, ROW, [rule, bad, odd, (m, ())])
                    self.refused_both(InvalidNumber, bad, weights_round, VALUES, [rule, bad, odd])
                self.refused_both(InvalidNumber, bad, free_weights, ["rule", "factor"], [rule, bad])
                self.refused_both(InvalidNumber, bad, weight_rings, ["rule", "factor"], [rule, bad])
                for n in (4, 0):
                    self.refused_both(InvalidNumber, bad, ring_weights, TOLD, [rule, bad, n])
                    if m in PRIMES:
                        self.refused_both(InvalidNumber, bad, all_round_weights, TOLD, [rule, bad, n])
            for factor in range(m):
                self.same(type(weight_rings(rule, factor)), list)

    def test_numbers_below_1(self):
        for m in MODULI:
            for n in (0, -1, -24, -FAR):
                self.refused_both(InvalidNumber, n, ring_weights, TOLD, [(m, ((1, 1),)), 1, n])
                if m in PRIMES:
                    self.refused_both(InvalidNumber, n, all_round_weights, TOLD, [(m, ((1, 1),)), 1, n])

    def test_rules_whose_ends_do_not_lead_on(self):
        for m in MODULI:
            bad = [(m, ()), (m, ((0, 1),)), (m, ((3, 1),)), (m, ((0, m - 1),))]
            told = [(rule, factor) for rule in bad for factor in range(m) if not fits(rule, factor)]
            self.assertGreater(len(told), 3)
            for prime in MODULI[m]:
                if prime < m:
                    # Modulo one prime alone an end leads back, or nothing is left.
                    other = m // prime
                    told += [((m, ((-1, prime), (1, 1))), 0), ((m, ((-1, 1), (1, prime))), 0),
                             ((m, ((-1, other), (0, prime), (1, other))), 0), ((m, ((-1, other), (1, other))), 0),
                             ((m, ((0, 1 + prime), (1, 1))), 1), ((m, ((-1, prime), (0, 1), (1, prime))), 1)]
            for rule, factor in told:
                self.assertFalse(fits(rule, factor))
                for odd in ((0,), (0, 0), (m, m), None, ()):
                    self.refused_both(InvalidRule, rule, weight, PLACE, [rule, factor, odd, 5])
                    self.refused_both(InvalidRule, rule, weights_round, VALUES, [rule, factor, odd])
                    for row in ((m, ()), None, (2 if m > 2 else 3, ())):
                        self.refused_both(InvalidRule, rule, weighted, ROW, [rule, factor, odd, row])
                self.refused_both(InvalidRule, rule, free_weights, ["rule", "factor"], [rule, factor])
                # On rings they are rules like others.
                self.same(type(ring_weights(rule, factor, 5)), list)
                self.same(type(weight_rings(rule, factor)), list)

    def test_all_rules_of_three_terms(self):
        for m in (2, 3, 6, 10):
            for factors in product(range(m), repeat=3):
                rule = (m, tuple((d - 1, c) for d, c in enumerate(factors) if c))
                for factor in {0, 1, m - 1, m // 2}:
                    if fits(rule, factor):
                        self.same(free_weights(rule, factor), wide(rule, factor))
                    else:
                        self.refused(InvalidRule, rule, free_weights, rule, factor)

    def test_values(self):
        for m in MODULI:
            rule, good = (m, ((-2, 1), (0, m - 1), (1, 1))), (0, m - 1, 1)
            for odd in list(spoiled(good)) + odd_objects():
                if told_tuple(odd, 3) and all(told_integer(value, 0, m - 1) for value in odd):
                    self.same(weight(rule, 0, odd, 1), odd[1])
                else:
                    self.refused(InvalidCells, odd, weight, rule, 0, odd, 5)
                    self.refused(InvalidCells, odd, weighted, rule, 0, odd, None)
                    self.refused(InvalidCells, odd, weights_round, rule, 0, odd)
            self.refused_both(InvalidCells, (0, 0), weighted, ROW, [rule, 0, (0, 0), (3 if m == 2 else 2, ())])

    def test_rows(self):
        for m in MODULI:
            rule, values = (m, ((-1, 1), (1, m - 1))), (0, 1)
            for odd in odd_objects():
                self.refused(InvalidRow, odd, weighted, rule, 0, values, odd)
            for other in MODULI:
                if other != m:
                    self.refused_both(Unlike, other, weighted, ROW, [rule, 0, values, (other, ((1, 1),))])

    def test_composite_moduli_have_no_list_of_weights(self):
        for m in [m for m in MODULI if m not in PRIMES]:
            for rule in ((m, ()), (m, ((1, 1),)), (m, ((-1, m // 2), (1, 1)))):
                for factor, n in product((0, 1, -1, m, FAR), (1, 24, 0, -1)):
                    self.refused_both(InvalidRule, rule, all_round_weights, TOLD, [rule, factor, n])

    def test_rules(self):
        for odd in odd_objects():
            if not told_rule(odd):
                for call, further in ((free_weights, [-1]), (weight, [-1, None, 5]), (weighted, [-1, None, None]),
                                      (weights_round, [-1, None]), (ring_weights, [-1, 0]), (weight_rings, [-1]),
                                      (all_round_weights, [-1, 0])):
                    self.refused(InvalidRule, odd, call, odd, *further)


class TwoPrimes(Case):

    def test_rounds_and_weights_by_primes(self):
        chance = Random(31)
        for m in (6, 10, 14, 15):
            for _ in range(5):
                rule, factor = some_fit(chance, m, -2, 2)
                values = some_values(chance, m, wide(rule, factor))
                turns, rests = 1, []
                for prime in MODULI[m]:
                    part = (prime, left_modulo(rule, prime))
                    own = tuple(value % prime for value in values)
                    turns = lcm(turns, weights_round(part, factor % prime, own))
                    rests.append(weight(part, factor % prime, own, FAR))
                self.same(weights_round(rule, factor, values), turns)
                self.same(weight(rule, factor, values, FAR), by_remainders(m, rests))

    def test_the_judge_of_long_products(self):
        # Weights that one prime factor of the rule less the factor makes 0 come round as that one tells.
        one, other = (1, 1, 1), (1, 1, 0, 1)
        poly = times(one, other, 2)
        rule = (2, tuple((d, c) for d, c in enumerate(poly) if c))
        for part, turns in ((one, 3), (other, 7)):
            cells = walked([(-k, c) for k, c in enumerate(part) if c][::-1], (1,) + (0,) * (len(part) - 2), 0, 9, 2)
            self.same(weights_round(rule, 0, tuple(cells[k] for k in range(5))), turns)
        self.same(weights_round(rule, 0, (0, 0, 0, 0, 1)), 21)
