"""Promise 13: meets, meets_at, meets_often, root, greatest_root, comes_round."""

from itertools import product
from math import gcd
from random import Random

from nearadds.errors import InvalidNumber
from nearadds.meets import comes_round, greatest_root, meets, meets_at, meets_often, root
from nearadds.rules import is_rule
from tests.cases import Case
from tests.worked import FAR, MODULI, PRIMES, by_remainders, left_modulo, power_of, some_rule

MOST = 10 ** 30
BOTH = ["one", "other"]
COMPOSITE = [m for m in MODULI if len(MODULI[m]) == 2]


def within(rule, reach=4):
    return all(-reach <= d <= reach for d, _ in rule[1])


def parts_together(modulus, parts):
    """The rule with these terms modulo the primes."""
    made = []
    for d in sorted({d for part in parts for d, _ in part}):
        made.append((d, by_remainders(modulus, [dict(part).get(d, 0) for part in parts])))
    return modulus, tuple(made)


def powers_to(rule, most):
    made = [(rule[0], ((0, 1),))]
    for _ in range(most):
        made.append(multiplied(made[-1], rule))
    return made


def multiplied(one, other):
    sums = {}
    for (d, c), (e, f) in product(one[1], other[1]):
        sums[d + e] = (sums.get(d + e, 0) + c * f) % one[0]
    return one[0], tuple((d, sums[d]) for d in sorted(sums) if sums[d])


def pairs_that_fall_together(one, other, most):
    """All tuples (a, b) from 1 to most whose powers fall together, multiplied out."""
    first, second = powers_to(one, most), powers_to(other, most)
    return [(a, b) for a in range(1, most + 1) for b in range(1, most + 1) if first[a] == second[b]]


def all_rules(modulus, least, greatest):
    for factors in product(range(modulus), repeat=greatest - least + 1):
        yield modulus, tuple((least + k, c) for k, c in enumerate(factors) if c)


class MultipliedOut(Case):

    def judged(self, one, other):
        """Judged by all pairs to a number; greater ones that are told are multiplied out, too."""
        # A round of the factors is at most 12 steps: so two pairs of rules that only multiply are seen to 26.
        most = 13 if any(d for d, _ in one[1] + other[1]) else 26
        found = pairs_that_fall_together(one, other, most)
        told = meets(one, other)
        if found:
            self.answers(found[0], meets, BOTH, [one, other])
            a, b = found[0]
            beside = [pair for pair in found if pair[0] * b != pair[1] * a or pair[0] % a]
            self.answers("further" if beside else "multiples", meets_often, BOTH, [one, other])
        elif told is None:
            self.same(meets_often(one, other), None)
        else:
            self.assertGreater(max(told), most)
            self.same(power_of(one, told[0]), power_of(other, told[1]))
        for a, b in product(range(5), repeat=2):
            expected = power_of(one, a) == power_of(other, b)
            self.answers(expected, meets_at, ["one", "other", "a", "b"], [one, other, a, b])
        return told

    def test_small_rules(self):
        chance = Random(1)
        for m in MODULI:
            for _ in range(25):
                one, other = some_rule(chance, m, -1, 1), some_rule(chance, m, -1, 1)
                self.judged(one, other)

    def test_powers_of_one_rule(self):
        chance, seen = Random(2), set()
        for m in MODULI:
            for _ in range(25):
                base = some_rule(chance, m, -1, 1, chance.randint(1, 3))
                a, b = chance.randint(1, 3), chance.randint(1, 3)
                one, other = power_of(base, a), power_of(base, b)
                factor = chance.randrange(1, m)
                if chance.randrange(2):
                    one = multiplied(one, (m, ((0, factor),)))
                if within(one) and within(other):
                    seen.add(self.judged(one, other) is None)
        self.assertEqual(seen, {True, False})

    def test_all_rules_that_only_multiply_cells(self):
        for m in MODULI:
            for one, other in product(range(m), repeat=2):
                rules = [(m, ((0, c),) if c else ()) for c in (one, other)]
                found = [(a, b) for a in range(1, 13) for b in range(1, 13) if pow(one, a, m) == pow(other, b, m)]
                self.same(meets(*rules), found[0] if found else None)
                self.same(meets_often(*rules), "further" if found else None)

    def test_rules_that_multiply_and_move(self):
        for m in MODULI:
            for factor, further in product(range(1, m), repeat=2):
                for d, e in ((1, 1), (1, -1), (2, 4), (-2, -3), (0, 1), (3, 0)):
                    one, other = (m, ((d, factor),)), (m, ((e, further),))
                    found = []
                    if d * e > 0:
                        share = gcd(d, e)
                        a, b = abs(e) // share, abs(d) // share
                        found = [k for k in range(1, 13) if pow(factor, k * a, m) == pow(further, k * b, m)]
                        # What is nought modulo a prime comes to nothing there, whatever it would move.
                        found = [(k * a, k * b) for k in found]
                    if m in PRIMES:
                        self.same(meets(one, other), found[0] if found else None)
                        self.same(meets_often(one, other), "multiples" if found else None)
                    else:
                        self.judged_by_primes(one, other)

    def judged_by_primes(self, one, other):
        first, second = [[self.one_term(rule, times) for times in range(1, 61)] for rule in (one, other)]
        found = [(a + 1, b + 1) for a, b in product(range(60), repeat=2) if first[a] == second[b]]
        self.same(meets(one, other), found[0] if found else None)

    def one_term(self, rule, times):
        (offset, factor), = rule[1]
        factor = pow(factor, times, rule[0])
        return (offset * times, factor) if factor else ()

    def test_nought(self):
        for m in MODULI:
            rule = (m, ((0, 1), (1, 1)))
            self.same([meets((m, ()), (m, ())), meets_often((m, ()), (m, ()))], [(1, 1), "further"])
            for other in (rule, (m, ((0, 1),)), (m, ((0, m - 1),))):
                self.same([meets((m, ()), other), meets(other, (m, ()))], [None, None])
                self.same([meets_often((m, ()), other), meets_often(other, (m, ()))], [None, None])

    def test_nought_modulo_one_prime(self):
        for m in COMPOSITE:
            for nought in MODULI[m]:
                one, other = (m, ((0, nought), (1, nought))), power_of((m, ((0, nought), (1, nought))), 3)
                self.same([meets(one, other), meets_often(one, other)], [meets(one, other), "multiples"])
                a, b = meets(one, other)
                self.same(power_of(one, a), power_of(other, b))
                self.same(a, 3 * b)
                self.judged(one, other)
                self.same(meets(one, (m, ((0, 1), (1, 1)))), None)
                only = (m, ((0, nought),))
                self.same(meets_often(only, only), "further")
                self.same(meets(only, only), (1, 1))

    def test_ratios_unlike_modulo_two_primes(self):
        for m in COMPOSITE:
            low, high = MODULI[m]
            first, second = ((0, 1), (1, 1)), ((-1, 1), (0, 1))
            parts = [(p, terms) for p, terms in ((low, first), (high, second))]
            for a, b in product((1, 2, 3), repeat=2):
                one = parts_together(m, [parts[0][1], parts[1][1]])
                other = parts_together(m, [power_of(parts[0], a)[1], power_of(parts[1], b)[1]])
                if a == b:
                    self.same(meets(one, other), (a, 1))
                    self.same(meets_often(one, other), "multiples")
                else:
                    self.same([meets(one, other), meets_often(one, other)], [None, None])
                self.judged(one, other)

    def test_unlike_prime_factors_modulo_one_prime(self):
        for m in COMPOSITE:
            for k in range(2):
                shared, parts = ((0, 1), (1, 1)), [((0, 1), (1, 1)), ((0, 1), (1, 1))]
                parts[k] = ((0, 1), (1, 1), (3, 1))
                one, other = parts_together(m, [shared, shared]), parts_together(m, parts)
                self.same([meets(one, other), meets_often(one, other)], [None, None])
                self.judged(one, other)


class GreatNumbers(Case):

    def test_meets_at(self):
        chance = Random(3)
        names = ["one", "other", "a", "b"]
        for m in MODULI:
            round_of = {2: 1, 3: 2, 5: 4, 6: 2, 7: 6, 10: 4, 11: 10, 13: 12, 14: 6, 15: 4}[m]
            for _ in range(6):
                base = some_rule(chance, m, -1, 1, chance.randint(1, 3))
                one, other = power_of(base, 2), power_of(base, 3)
                k = chance.randint(1, MOST // 3 // round_of) * round_of
                self.answers(True, meets_at, names, [one, other, 3 * k, 2 * k])
                moved = all(len(left_modulo(base, p)) > 1 for p in MODULI[m])
                if moved:
                    self.same(meets_at(one, other, 3 * k, 2 * k - 1), False)
                    self.same(meets_at(one, other, 3 * k - 1, 2 * k), False)

    def test_numbers_of_0(self):
        for m in MODULI:
            rule, still = (m, ((0, 1), (1, 1))), (m, ((0, 1),))
            self.same(meets_at(rule, (m, ()), 0, 0), True)
            self.same(meets_at((m, ()), (m, ()), 0, 0), True)
            self.same(meets_at((m, ()), (m, ()), 1, 0), False)
            self.same(meets_at((m, ()), (m, ()), 1, MOST), True)
            self.same(meets_at(rule, still, 0, MOST), True)
            self.same(meets_at(rule, still, 1, MOST), False)
            self.same(meets_at((m, ()), still, 0, MOST), True)
            self.same(meets_at((m, ()), still, MOST, MOST), False)
            self.same(meets_at((m, ((1, 1),)), (m, ((2, 1),)), MOST, MOST // 2), True)
            self.same(meets_at((m, ((1, 1),)), (m, ((2, 1),)), MOST, MOST // 2 + 1), False)

    def test_factors_in_front(self):
        for m in MODULI:
            for factor in range(1, m):
                one, other = (m, ((1, factor),)), (m, ((1, 1),))
                unit = all(factor % prime for prime in MODULI[m])
                for times in (MOST, MOST - 1, 60, 61):
                    expected = pow(factor, times, m) == 1 and unit
                    self.same(meets_at(one, other, times, times), expected)

    def test_numbers_out_of_range(self):
        rule, names = (6, ((0, 1), (1, 5))), ["one", "other", "a", "b"]
        for bad in (-1, MOST + 1, FAR, -FAR):
            for good in (0, MOST):
                self.refused_both(InvalidNumber, bad, meets_at, names, [rule, rule, bad, good])
                self.refused_both(InvalidNumber, bad, meets_at, names, [rule, rule, good, bad])
            self.refused(InvalidNumber, bad, meets_at, rule, rule, bad, MOST + 2)


class Roots(Case):

    def test_powers_have_roots(self):
        chance = Random(4)
        for m in MODULI:
            for times in (1, 2, 3, 4, 5, 8, 39, 40):
                for _ in range(6):
                    reach = 4 // times if times < 5 else 0
                    rule = power_of(some_rule(chance, m, -reach, reach), times)
                    if within(rule):
                        found = root(rule, times)
                        self.same(is_rule(found), True)
                        self.same(power_of(found, times), rule)
                        self.answers(found, root, ["rule", "times"], [rule, times])

    def test_all_rules_with_roots_of_small_moduli(self):
        chance = Random(5)
        for m, times in ((2, 2), (2, 3), (2, 4), (3, 2), (3, 3), (3, 4), (5, 2), (5, 4), (6, 2), (6, 3), (7, 3),
                         (10, 4), (11, 4), (13, 4), (14, 4), (15, 4)):
            reach = 4 // times
            made = {power_of(rule, times): True for rule in all_rules(m, -reach, reach)}
            tried = [some_rule(chance, m, -4, 4, chance.randint(0, 4)) for _ in range(60)]
            tried += [rule for rule in chance.sample(sorted(made), min(40, len(made)))]
            tried += [(m, tuple((d, c * 2 % m) for d, c in rule[1] if c * 2 % m)) for rule in tried]
            for rule in tried:
                found = root(rule, times)
                self.same(found is not None, rule in made)
                if found is not None:
                    self.same(power_of(found, times), rule)

    def test_factors_without_a_root(self):
        for m in MODULI:
            for factor in range(m):
                for times in range(1, 41):
                    fits = [k for k in range(m) if pow(k, times, m) == factor]
                    rule = (m, ((0, factor),) if factor else ())
                    found = root(rule, times)
                    self.same(found is not None, bool(fits))
                    if found is not None:
                        self.same(power_of(found, times), rule)

    def test_nought(self):
        for m in MODULI:
            for times in (1, 2, 40):
                self.same(root((m, ()), times), (m, ()))
        for m in COMPOSITE:
            for nought, other in (MODULI[m], MODULI[m][::-1]):
                rule = power_of((m, ((-1, nought), (2, nought))), 2)
                found = root(rule, 2)
                self.same(power_of(found, 2), rule)
                self.same(left_modulo(found, nought), ())

    def test_times_out_of_range(self):
        for bad in (0, -1, 41, -40, MOST, FAR):
            self.refused_both(InvalidNumber, bad, root, ["rule", "times"], [(6, ((0, 1),)), bad])


class GreatestRoots(Case):

    def test_by_all_rules_with_roots(self):
        chance = Random(6)
        for m in (2, 3, 5, 6):
            made = {}
            for times in range(2, 9):
                for rule in all_rules(m, -(4 // times), 4 // times):
                    made[power_of(rule, times), times] = True
            # Within offsets to 4 no power to more than 4 has a width, or is moved.
            tried = [some_rule(chance, m, -4, 4, chance.randint(0, 4)) for _ in range(150)]
            tried += [rule for rule, _ in chance.sample(sorted(made), min(150, len(made)))]
            for rule in tried:
                if within(rule):
                    expected = max([times for times in range(1, 9) if times == 1 or (rule, times) in made])
                    if self.endless(rule):
                        expected = "endless"
                    self.answers(expected, greatest_root, ["rule"], [rule])

    def endless(self, rule):
        """Whether modulo each prime the rule is nought or only multiplies."""
        return all(d == 0 for prime in MODULI[rule[0]] for d, _ in left_modulo(rule, prime))

    def test_known_ones(self):
        for m in MODULI:
            self.same(greatest_root((m, ())), "endless")
            self.same(greatest_root((m, ((0, 1),))), "endless")
            self.same(greatest_root((m, ((0, m - 1),))), "endless")
            self.same(greatest_root((m, ((4, 1),))), 4)
            self.same(greatest_root((m, ((-3, 1),))), 3)
            self.same(greatest_root((m, ((1, 1),))), 1)
            self.same(greatest_root((m, ((0, 1), (1, 1)))), 1)
            self.same(greatest_root(power_of((m, ((0, 1), (1, 1))), 4)), 4)
            self.same(greatest_root(power_of((m, ((-1, 1), (0, 1))), 4)), 4)
            self.same(greatest_root(power_of((m, ((-1, 1), (1, 1))), 4)), 4)

    def test_eight_times(self):
        # x ** -4 times a polynomial to the power 8 is moved by 4: 8 does not divide this, 4 does.
        for prime in PRIMES:
            rule = power_of((prime, ((0, 1), (1, 1))), 8)
            self.same(greatest_root((prime, tuple((d - 4, c) for d, c in rule[1]))), 4)
            self.same(greatest_root((prime, tuple((d - 3, c) for d, c in rule[1]))), 1)
            self.same(greatest_root(rule), 8)

    def test_factors_in_front(self):
        for prime in PRIMES:
            for factor in range(1, prime):
                expected = max(n for n in (1, 2, 4) if any(pow(k, n, prime) == factor for k in range(prime)))
                self.same(greatest_root((prime, ((-4, factor),))), expected)
                squares = power_of((prime, ((0, 1), (1, 1))), 4)
                rule = (prime, tuple((d, c * factor % prime) for d, c in squares[1]))
                self.same(greatest_root(rule), expected)

    def test_unlike_modulo_two_primes(self):
        for m in COMPOSITE:
            for k in range(2):
                parts = [((0, 1),), ((0, 1),)]
                parts[k] = ((4, 1),)
                self.same(greatest_root(parts_together(m, parts)), 4)
                parts[1 - k] = ((3, 1),)
                self.same(greatest_root(parts_together(m, parts)), 1)
                parts[1 - k] = ((-2, 1),)
                self.same(greatest_root(parts_together(m, parts)), 2)
                parts[1 - k] = ()
                self.same(greatest_root(parts_together(m, parts)), 4)


class ComesRound(Case):

    def test_all_rules_that_only_multiply(self):
        for m in MODULI:
            for factor in range(m):
                found = [n for n in range(1, 13) if pow(factor, n, m) == 1]
                rule = (m, ((0, factor),) if factor else ())
                self.answers(found[0] if found else None, comes_round, ["rule"], [rule])

    def test_all_others(self):
        chance = Random(7)
        for m in MODULI:
            for _ in range(30):
                rule = some_rule(chance, m, -2, 2)
                made = powers_to(rule, 12)
                found = [n for n in range(1, 13) if made[n] == made[0]]
                self.same(comes_round(rule), found[0] if found else None)
            for offset in (-4, -1, 1, 4):
                self.same(comes_round((m, ((offset, 1),))), None)
                self.same(comes_round((m, ((0, 1), (offset, 1)) if offset > 0 else ((offset, 1), (0, 1)))), None)

    def test_unlike_modulo_two_primes(self):
        for m in COMPOSITE:
            for k in range(2):
                parts = [((0, 1),), ((0, 1),)]
                for other in ((), ((1, 1),), ((0, 1), (1, 1))):
                    parts[k] = other
                    self.same(comes_round(parts_together(m, parts)), None)
