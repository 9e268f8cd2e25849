"""Promise 12: alike, parting, span, total, joined, as_rule, power_of, undone."""

from itertools import product
from random import Random

from nearadds.errors import InvalidNumber
from nearadds.programs import alike, as_rule, joined, parting, power_of, span, total, undone
from nearadds.rules import is_program, is_rule, power
from tests.cases import Case
from tests.worked import FAR, MODULI, PRIMES, by_remainders, far_value, first_led, first_unlike, last_led, left_modulo
from tests.worked import one_cell, power_of as powered, product_of, program_behind, row_behind, some_row, some_program
from tests.worked import some_rule, stretched_rule

MOST = 10 ** 30
BOTH = ["one", "other"]
COMPOSITE = [m for m in MODULI if len(MODULI[m]) == 2]


def some_times(chance):
    return chance.choice([chance.randint(0, 9), chance.randint(0, 10 ** 15), MOST - chance.randint(0, 10 ** 20), MOST])


def far_program(chance, modulus, many=3, least=-4, greatest=4):
    """A program of so many steps with great times, none of which makes all 0."""
    steps = []
    while len(steps) < many:
        rule = some_rule(chance, modulus, least, greatest)
        if all(left_modulo(rule, prime) for prime in MODULI[modulus]):
            steps.append((rule[1], some_times(chance)))
    return modulus, tuple(steps)


class SteppedByCells(Case):
    """Programs of few steps and few times, stepped cell by cell on the row with the one cell 1."""

    def pairs(self, seed, many=40):
        chance = Random(seed)
        for m in MODULI:
            for _ in range(many):
                one, other = some_program(chance, m), some_program(chance, m)
                if chance.randrange(4) == 0:
                    other = (m, one[1][::-1] + (((), 0),) * chance.randrange(2))
                yield one, other

    def test_alike_and_parting(self):
        seen = set()
        for one, other in self.pairs(1):
            left = [program_behind(told, one_cell(one[0])) for told in (one, other)]
            self.answers(left[0] == left[1], alike, BOTH, [one, other])
            self.answers(first_unlike(*left), parting, BOTH, [one, other])
            seen.add(left[0] == left[1])
        self.assertEqual(seen, {True, False})

    def test_span_and_total(self):
        for one, _ in self.pairs(2):
            left = program_behind(one, one_cell(one[0]))[1]
            self.answers((left[0][0], left[-1][0]) if left else None, span, ["program"], [one])
            self.answers(sum(value for _, value in left) % one[0], total, ["program"], [one])

    def test_as_rule(self):
        for one, _ in self.pairs(3):
            left = program_behind(one, one_cell(one[0]))[1]
            expected = (one[0], tuple((-place, value) for place, value in left[::-1]))
            self.answers(expected, as_rule, ["program"], [one])
            self.same(is_rule(as_rule(one)), True)

    def test_alike_programs_do_the_same_to_other_rows(self):
        chance = Random(4)
        for one, other in self.pairs(4, 10):
            row = some_row(chance, one[0], 5)
            if alike(one, other):
                self.same(program_behind(one, row), program_behind(other, row))

    def test_joined(self):
        for one, other in self.pairs(5, 10):
            self.answers((one[0], one[1] + other[1]), joined, BOTH, [one, other])
            behind = program_behind(other, program_behind(one, one_cell(one[0])))
            self.same(program_behind(joined(one, other), one_cell(one[0])), behind)

    def test_power_of(self):
        for one, _ in self.pairs(6, 10):
            for times in range(4):
                expected = (one[0], tuple((terms, often * times) for terms, often in one[1]))
                self.answers(expected, power_of, ["program", "times"], [one, times])
            behind = program_behind(one, program_behind(one, one_cell(one[0])))
            self.same(program_behind(power_of(one, 2), one_cell(one[0])), behind)

    def test_undone(self):
        chance, seen = Random(7), set()
        for m in MODULI:
            for _ in range(60):
                one = some_program(chance, m, 2, 4, -1, 1)
                rules = [(m, terms) for terms, times in one[1] if times]
                leads = all(len(left_modulo(rule, prime)) == 1 for rule in rules for prime in MODULI[m])
                told = undone(one)
                seen.add((m, told is None))
                self.same(told is not None, leads)
                if leads:
                    self.answers(told, undone, ["program"], [one])
                    self.same(is_program(told), True)
                    self.same([times for _, times in told[1]], [times for _, times in one[1] if times])
                    for rule, (terms, _) in zip(rules, told[1]):
                        self.same(product_of(rule, (m, terms)), (m, ((0, 1),)))
                    row = some_row(chance, m, 4)
                    self.same(program_behind(told, program_behind(one, row)), row)
        self.assertEqual(len(seen), 2 * len(MODULI))


class Alike(Case):
    """Programs of great times, written in two ways."""

    def both(self, one, other):
        self.answers(True, alike, BOTH, [one, other])
        self.same(alike(other, one), True)
        self.same([parting(one, other), parting(other, one)], [None, None])

    def test_steps_in_another_sequence(self):
        chance = Random(11)
        for m in MODULI:
            for _ in range(4):
                one = far_program(chance, m, 4)
                self.both(one, (m, tuple(chance.sample(one[1], 4))))
                self.both(one, (m, one[1][:2] + (((), 0),) + one[1][2:]))

    def test_a_step_parted_in_two(self):
        chance = Random(12)
        for m in MODULI:
            for _ in range(4):
                one = far_program(chance, m)
                terms, times = one[1][1]
                part = chance.randint(0, times)
                self.both(one, (m, ((terms, part),) + one[1][:1] + ((terms, times - part),) + one[1][2:]))

    def test_the_power_of_a_rule_with_that_part_of_the_times(self):
        chance = Random(13)
        for m in MODULI:
            for many in (2, 3, 5, 7, 10):
                rule = some_rule(chance, m, -4, 4)
                for rest in (0, 1, many - 1):
                    times = MOST // many - chance.randint(1, 10 ** 20)
                    other = (m, ((powered(rule, many)[1], times), (rule[1], rest)))
                    self.both((m, ((rule[1], times * many + rest),)), other)

    def test_powers_that_the_package_made(self):
        for m in MODULI:
            rule = (m, ((-4, 1), (1, m - 1), (4, 1)))
            made = power(rule, 10)
            self.same(made[1][0][0], -40)
            self.both((m, ((made[1], 10 ** 29),)), (m, ((rule[1], 10 ** 30),)))

    def test_a_rule_as_often_as_the_prime_is_the_one_with_greater_offsets(self):
        chance = Random(14)
        for prime in PRIMES:
            reach = 40 // prime if prime > 3 else 4
            for _ in range(5):
                rule = some_rule(chance, prime, -min(reach, 4), min(reach, 4))
                times = chance.randint(1, MOST // prime)
                one, other = (rule[1], times * prime), (stretched_rule(rule, prime)[1], times)
                self.both((prime, (one,)), (prime, (other,)))

    def test_products_told_by_other_products(self):
        # (x + 1) (x + 2) and x ** 2 + 3 x + 2, with the offsets moved.
        for m in MODULI:
            first, second = ((0, 1), (1, 1)), ((0, 2), (1, 1)) if m > 2 else ((-1, 1), (0, 1), (1, 1))
            whole = product_of((m, first), (m, second))[1]
            self.both((m, ((first, MOST - 7), (second, MOST - 7))), (m, ((whole, MOST - 7),)))

    def test_factors_that_come_round(self):
        for m, round_of in ((2, 1), (3, 2), (5, 4), (6, 2), (7, 6), (10, 4), (11, 10), (13, 12), (14, 6), (15, 4)):
            for factor in range(1, m):
                one = (m, ((((1, 1), (2, 1)), MOST), (((0, factor),), round_of * 10 ** 28)))
                unit = all(factor % prime for prime in MODULI[m])
                self.same(alike(one, (m, one[1][:1])), unit)
                turned = (m, one[1][:1] + ((((0, factor),), round_of * 10 ** 28 + 2 * round_of),))
                self.both(one, turned)

    def test_nought_whatever_else_is_done(self):
        chance = Random(15)
        for m in MODULI:
            for _ in range(3):
                one, other = far_program(chance, m), far_program(chance, m)
                self.both((m, one[1] + (((), 1),)), (m, (((), MOST),) + other[1]))
                self.both(one, (m, one[1] + (((), 0),)))
                self.same(alike(one, (m, one[1] + (((), 1),))), False)

    def test_nought_modulo_each_prime_by_unlike_steps(self):
        for m in COMPOSITE:
            low, high = MODULI[m]
            one = (m, ((((0, low), (1, low)), MOST), (((-3, high),), 1)))
            self.both(one, (m, (((), 1),)))
            self.same([span(one), as_rule(one), total(one)], [None, (m, ()), 0])

    def test_no_steps(self):
        for m in MODULI:
            for other in ((), (((), 0),), ((((0, 1),), MOST),), ((((3, 1),), MOST), (((-3, 1),), MOST))):
                self.both((m, ()), (m, other))


class Parting(Case):
    """Programs of great times of which one thing is another one."""

    def expected(self, shared, one, other, often):
        """Where what two small rules leave parts, done so many times behind what is shared.

        The first cell of a product is the product of the first ones; often is a power of the prime, or 1.
        """
        places = []
        for prime in MODULI[shared[0]]:
            small = [(prime, left_modulo(rule, prime)) for rule in (one, other)]
            told = first_unlike(*[row_behind(rule, one_cell(prime)) for rule in small])
            first = first_led(shared, prime)
            if told is not None and first is not None:
                places.append(first + often * told[0])
        return min(places, default=None)

    def judged(self, shared, one, other, often=1):
        m = shared[0]
        programs = [(m, shared[1] + ((rule[1], often),)) for rule in (one, other)]
        place = self.expected(shared, one, other, often)
        told = parting(*programs)
        self.same(alike(*programs), place is None)
        if place is None:
            self.same(told, None)
        else:
            values = [far_value(program, one_cell(m), place) for program in programs]
            self.assertNotEqual(*values)
            self.answers((place, *values), parting, BOTH, programs)
            self.same(parting(*programs[::-1]), (place, *values[::-1]))

    def test_one_term_is_another_one(self):
        chance = Random(21)
        for m in MODULI:
            for _ in range(5):
                one = some_rule(chance, m, -4, 4, chance.randint(2, 6))
                k = chance.randrange(len(one[1]))
                less = (m, one[1][:k] + one[1][k + 1:])
                self.judged(far_program(chance, m), one, less)
                if m > 2:
                    offset, factor = one[1][k]
                    other = (m, one[1][:k] + ((offset, factor % (m - 1) + 1),) + one[1][k + 1:])
                    self.judged(far_program(chance, m), one, other)

    def test_one_term_of_a_rule_done_as_often_as_a_power_of_the_prime(self):
        chance = Random(22)
        for prime in PRIMES:
            often = 1
            while often * prime <= MOST:
                often *= prime
                one, other = some_rule(chance, prime, -4, 4, 4), some_rule(chance, prime, -4, 4, 4)
                other = (prime, one[1][:2] + other[1][:1]) if other[1][0][0] > one[1][1][0] else other
                if chance.randrange(4) == 0:
                    self.judged(far_program(chance, prime), one, other, often)

    def test_one_less_time(self):
        chance = Random(23)
        for m in MODULI:
            for _ in range(5):
                shared, rule = far_program(chance, m), some_rule(chance, m, -4, 4)
                self.judged(shared, rule, (m, ((0, 1),)))
                one = far_program(chance, m)
                terms, times = one[1][0]
                if times:
                    less = (m, ((terms, times - 1),) + one[1][1:])
                    self.judged(less, (m, terms), (m, ((0, 1),)))
                    self.same(parting((m, less[1] + ((terms, 1),)), one), None)

    def test_wide_rules(self):
        chance = Random(24)
        for m in MODULI:
            one = some_rule(chance, m, -40, 40, 60)
            for k in (0, 30, 59):
                self.judged(far_program(chance, m, 2), one, (m, one[1][:k] + one[1][k + 1:]))

    def test_far_behind_the_first_cell(self):
        # All terms but the last ones are alike: the place is as far off as a product is wide.
        for m in MODULI:
            one, other = (m, ((-40, 1), (40, 1))), (m, ((-39, 1), (40, 1)))
            self.judged((m, ((((-40, 1), (3, 1), (40, 1)), MOST),)), one, other)
            ends = [(m, ((-4, 1), (d, m - 1), (4, 1))) for d in (-3, -2)]
            self.judged((m, ((ends[0][1], MOST), (ends[1][1], MOST - 1))), *ends)

    def test_rules_that_part_at_their_last_terms_only(self):
        chance = Random(26)
        for m in MODULI:
            # All factors are units, so that no prime loses a term.
            fronts = [c for c in range(1, m) if all(c % prime for prime in MODULI[m])]
            for reach in (4, 4, 4, 40):
                one = tuple((d, chance.choice(fronts)) for d in range(-reach, reach + 1))
                for k in (1, 2, 3):
                    rules = [(m, one), (m, one[k:])]
                    self.judged((m, ()), *rules)
                    if m in PRIMES and reach == 4:
                        self.judged(far_program(chance, m, 1), *rules, often=m ** 7)

    def test_rules_that_nearly_are_powers(self):
        for prime in PRIMES:
            shared = (prime, ((((0, 1), (1, 1)), MOST),))
            for k in range(1, 4):
                one = powered((prime, ((-1, 1), (1, 1))), prime if prime < 4 else 4)
                other = (prime, one[1][:-k - 1] + one[1][len(one[1]) - k:])
                self.judged(shared, one, other)

    def test_nought_modulo_one_prime(self):
        chance = Random(25)
        for m in COMPOSITE:
            for prime in MODULI[m]:
                shared, nought = far_program(chance, m), (m, ((-2, prime), (1, prime)))
                self.judged(shared, nought, (m, ()))
                self.judged(shared, nought, (m, ((-2, 1), (1, 1))))
                self.judged(shared, (m, ((0, m - prime),)), nought)
                self.judged((m, shared[1] + ((nought[1], MOST),)), (m, ((0, 1), (1, 1))), (m, ((0, 1), (2, 1))))

    def test_no_steps_and_nought(self):
        for m in MODULI:
            self.same(parting((m, ()), (m, (((), 1),))), (0, 1, 0))
            self.same(parting((m, (((), 1),)), (m, ())), (0, 0, 1))
            self.same(parting((m, (((), MOST),)), (m, ((((-4, m - 1),), MOST),))), (
                4 * MOST, 0, pow(m - 1, MOST, m)))
            self.same(parting((m, ((((4, 1),), MOST),)), (m, ((((3, 1),), MOST),))), (-4 * MOST, 1, 0))

    def test_unlike_factors_in_front(self):
        for prime in PRIMES[1:]:
            one, other = ((0, 1), (1, 2)), ((0, 2), (1, 1))
            times = [number for number in (MOST, MOST - 1) if pow(2, number, prime) != 1][0]
            value = pow(2, times, prime)
            self.same(parting((prime, ((one, times),)), (prime, ((other, times),))), (-times, value, 1))


class Spans(Case):

    def test_great_times(self):
        chance = Random(31)
        for m, primes in MODULI.items():
            for _ in range(10):
                one = far_program(chance, m)
                firsts, lasts = [first_led(one, p) for p in primes], [last_led(one, p) for p in primes]
                self.answers((min(firsts), max(lasts)), span, ["program"], [one])
                first, last = span(one)
                self.assertNotEqual(far_value(one, one_cell(m), first), 0)
                self.assertNotEqual(far_value(one, one_cell(m), last), 0)
                self.same(far_value(one, one_cell(m), first - 1), 0)
                self.same(far_value(one, one_cell(m), last + 1), 0)

    def test_nought_modulo_one_prime(self):
        chance = Random(32)
        for m in COMPOSITE:
            for nought, other in (MODULI[m], MODULI[m][::-1]):
                one = far_program(chance, m)
                one = (m, one[1] + ((((-1, nought),), 1),))
                self.same(span(one), (first_led(one, other), last_led(one, other)))

    def test_edges(self):
        for m in MODULI:
            self.same(span((m, ())), (0, 0))
            self.same(span((m, (((), 0),))), (0, 0))
            self.same(span((m, (((), 1),))), None)
            self.same(span((m, ((((-40, 1), (40, 1)), MOST),) * 6)), (-240 * MOST, 240 * MOST))

    def test_one_cell_modulo_each_prime(self):
        for m in COMPOSITE:
            low, high = MODULI[m]
            rule = tuple(sorted([(-3, low), (2, high)]))
            one = (m, ((rule, MOST),))
            self.same(span(one), (-2 * MOST, 3 * MOST))
            self.same(as_rule(one), None)
            self.same(as_rule((m, ((rule, 39),))), (m, ((-117, pow(low, 39, m)), (78, pow(high, 39, m)))))
            self.same(as_rule((m, ((rule, 40),))), None)


class Totals(Case):

    def test_great_times(self):
        chance = Random(41)
        for m in MODULI:
            for _ in range(20):
                one = far_program(chance, m)
                expected = 1
                for terms, times in one[1]:
                    expected = expected * pow(sum(c for _, c in terms), times, m) % m
                self.answers(expected, total, ["program"], [one])

    def test_edges(self):
        for m in MODULI:
            self.same(total((m, ())), 1)
            self.same(total((m, (((), 0),))), 1)
            self.same(total((m, (((), 1),))), 0)
            self.same(total((m, ((((0, 1), (1, m - 1)), 0),))), 1)
            self.same(total((m, ((((0, 1), (1, m - 1)), MOST),))), 0)
            self.same(total((m, ((((-4, m - 1),), MOST - 1),))), m - 1)


class AsRules(Case):

    def test_spans_of_199_and_200(self):
        for m in MODULI:
            for width in (1, 198, 199, 200):
                terms = ((0, 1), (1, m - 1)), ((0, 1), (1, 1))
                one = (m, ((terms[0], width - 1), (terms[1], 1), (((3, 1),), MOST)))
                expected = None
                if width < 200:
                    made = powered((m, terms[0]), width - 1)
                    made = product_of(made, (m, terms[1]))
                    expected = (m, tuple((d + 3 * MOST, c) for d, c in made[1]))
                self.answers(expected, as_rule, ["program"], [one])
            self.same(as_rule((m, ((((-40, 1), (40, 1)), 3),))), None)
            self.same(as_rule((m, ((((-40, 1), (40, 1)), 2), (((0, 1), (39, 1)), 1)))), wide_expected(m))

    def test_wide_but_nought(self):
        for m in MODULI:
            self.same(as_rule((m, ((((-4, 1), (4, 1)), MOST), ((), 1)))), (m, ()))

    def test_narrow_rules_of_great_times(self):
        chance = Random(51)
        for m in MODULI:
            for _ in range(5):
                steps = [(((chance.randint(-4, 4), chance.randrange(1, m)),), some_times(chance)) for _ in range(5)]
                expected = (0, 1)
                for ((offset, factor),), times in steps:
                    expected = (expected[0] + offset * times, expected[1] * pow(factor, times, m) % m)
                self.same(as_rule((m, tuple(steps))), (m, (expected,) if expected[1] else ()))

    def test_edges(self):
        for m in MODULI:
            self.same(as_rule((m, ())), (m, ((0, 1),)))
            self.same(as_rule((m, (((), 0),))), (m, ((0, 1),)))
            self.same(as_rule((m, ((((2, 1), (3, 1)), 0),))), (m, ((0, 1),)))

    def test_wide_modulo_one_prime_alone(self):
        for m in COMPOSITE:
            for nought, other in (MODULI[m], MODULI[m][::-1]):
                # Modulo the one prime one cell, modulo the other one a rule of the width 1.
                unit, rest = by_remainders(m, [int(p == nought) for p in MODULI[m]]), by_remainders(
                    m, [int(p == other) for p in MODULI[m]])
                terms = ((0, 1), (1, rest))
                told = as_rule((m, ((terms, 199),)))
                expected = powered((other, ((0, 1), (1, 1))), 199)
                self.same(left_modulo(told, other), expected[1])
                self.same(left_modulo(told, nought), ((0, 1),))
                self.same(as_rule((m, ((terms, 200),))), None)
                self.same(as_rule((m, ((((0, unit), (1, rest)), 199),))) is not None, True)
                self.same(as_rule((m, ((((0, unit), (1, rest)), 200),))), None)


def wide_expected(m):
    made = powered((m, ((-40, 1), (40, 1))), 2)
    return product_of(made, (m, ((0, 1), (39, 1))))


class PowersOf(Case):

    def test_the_greatest_times(self):
        for m in MODULI:
            one = (m, ((((0, 1),), 10 ** 15), ((), 0), (((3, 1),), 7)))
            names = ["program", "times"]
            expected = (m, ((((0, 1),), MOST), ((), 0), (((3, 1),), 7 * 10 ** 15)))
            self.answers(expected, power_of, names, [one, 10 ** 15])
            for bad in (10 ** 15 + 1, MOST, FAR, -1, -FAR):
                self.refused_both(InvalidNumber, bad, power_of, names, [one, bad])

    def test_steps_of_0_times_stay_with_any_times(self):
        for m in MODULI:
            for one in ((m, ()), (m, (((), 0),)), (m, (((), 0), (((-4, 1),), 0)))):
                for times in (0, 1, 41, MOST + 1, FAR):
                    self.same(power_of(one, times), one)
                self.refused(InvalidNumber, -1, power_of, one, -1)
            one = (m, ((((-1, 1),), MOST), ((), 5)))
            self.same(power_of(one, 0), (m, ((((-1, 1),), 0), ((), 0))))
            self.same(power_of(one, 1), one)
            self.refused(InvalidNumber, 2, power_of, one, 2)


class Undone(Case):

    def test_great_times(self):
        for m in MODULI:
            for factor, offset in product(range(1, m), (-40, 0, 4)):
                one = (m, ((((offset, factor),), MOST), ((), 0), (((-offset, 1),), MOST - 1)))
                told = undone(one)
                if all(factor % prime for prime in MODULI[m]):
                    back = pow(factor, -1, m)
                    self.same(told, (m, ((((-offset, back),), MOST), (((offset, 1),), MOST - 1))))
                    self.same(alike(joined(one, told), (m, ())), True)
                else:
                    self.same(told, None)

    def test_one_cell_modulo_each_prime(self):
        for m in COMPOSITE:
            low, high = MODULI[m]
            one = (m, ((tuple(sorted([(-3, low), (2, high)])), MOST),))
            told = undone(one)
            self.same([offset for offset, _ in told[1][0][0]], [-2, 3])
            self.same(alike(joined(told, one), (m, ())), True)
            self.same(undone((m, ((((-3, low), (-2, low), (2, high)), 1),))), None)

    def test_edges(self):
        for m in MODULI:
            self.same(undone((m, ())), (m, ()))
            self.same(undone((m, (((), 0), (((0, 1), (1, 1)), 0)))), (m, ()))
            self.same(undone((m, (((), 1),))), None)
            self.same(undone((m, ((((0, 1), (1, 1)), 1),))), None)


class Joined(Case):

    def test_steps_stay_in_their_sequence(self):
        for m in MODULI:
            one, other = (m, (((), 0), (((1, 1),), MOST))), (m, ((((0, m - 1),), 3),) * 6)
            self.same(joined(one, other), (m, one[1] + other[1]))
            self.same(joined(other, one), (m, other[1] + one[1]))
            self.same(joined(one, (m, ())), one)
            self.same(joined((m, ()), (m, ())), (m, ()))
            self.same(is_program(joined(other, other)), True)
            self.same(alike(joined(other, one), joined(one, other)), True)
