"""Promises 30 and 31: round_after, rounds_ahead, round_bar, round_bars, least_ahead, comes_again."""

from itertools import product
from math import gcd, lcm
from random import Random

from nearadds.rounds import comes_again, least_ahead, round_after, round_bar, round_bars, rounds_ahead
from nearadds.rules import is_round
from tests.cases import Case
from tests.test_programs import COMPOSITE, MOST, far_program
from tests.worked import MODULI, PRIMES, by_remainders, left_modulo, odd_objects, power_of, product_of, round_behind
from tests.worked import some_program, some_round, some_rule, spoiled, stretched_rule, told_integer, told_tuple

BOTH = ["rule", "row"]
PROGRAM = ["program", "row"]


def after(program, row):
    for terms, times in program[1]:
        for _ in range(times):
            row = round_behind((program[0], terms), row)
    return row


def moduli_and_lengths(most):
    """Rings of which all rows are tried."""
    for m in MODULI:
        many = 1
        while m ** many <= most:
            yield m, many
            many += 1


def all_rows(modulus, many):
    return [(modulus, values) for values in product(range(modulus), repeat=many)]


def is_round_bar(rule, row, value):
    """Whether any object is one, by what a step leaves of the rows with one cell 1."""
    if not (told_tuple(value, 2) and told_integer(value[0]) and value[0] in MODULI[rule[0]]):
        return False
    (prime, weights), many = value, len(row[1])
    if not (told_tuple(weights, many) and all(told_integer(weight, 0, prime - 1) for weight in weights)):
        return False
    for k in range(many):
        left = round_behind(rule, (rule[0], tuple(int(j == k) for j in range(many))))
        if sum(weight * value for weight, value in zip(weights, left[1])) % prime:
            return False
    return sum(weight * value for weight, value in zip(weights, row[1])) % prime != 0


class RoundAfter(Case):

    def test_stepped(self):
        chance = Random(1)
        for m in MODULI:
            for many in (1, 2, 3, 4, 5, 6, 7, 9, 12, 30, 60):
                program, row = some_program(chance, m, 3, 5, -4, 4), some_round(chance, m, many)
                self.answers(after(program, row), round_after, PROGRAM, [program, row])
                self.same(is_round(round_after(program, row)), True)

    def test_great_times_by_rounds_that_come_again(self):
        chance = Random(2)
        for m in (2, 3, 5, 6, 7):
            for many in (1, 2, 3, 4, 5):
                rule, row = some_rule(chance, m, -2, 2), some_round(chance, m, many)
                begin, length, rows = walked_on(rule, row)
                for times in (MOST, MOST - 1, MOST - chance.randint(0, 10 ** 20)):
                    expected = rows[begin + (times - begin) % length]
                    self.same(round_after((m, ((rule[1], times),)), row), expected)

    def test_times_that_are_sums_of_powers_of_the_prime(self):
        chance = Random(3)
        for prime in PRIMES:
            highest = [k for k in range(100) if prime ** k <= MOST // 2][-1]
            for many in (1, 4, 7, 12, 59, 60):
                rule, row = some_rule(chance, prime), some_round(chance, prime, many)
                expected = row
                for k in (0, 1, 5, highest):
                    expected = round_behind(stretched_rule(rule, prime ** k), expected)
                times = sum(prime ** k for k in (0, 1, 5, highest))
                self.same(round_after((prime, ((rule[1], times),)), row), expected)

    def test_by_squares(self):
        chance = Random(4)
        for m in MODULI:
            for many in (5, 12):
                program, row = far_program(chance, m), some_round(chance, m, many)
                expected = row
                for terms, times in program[1]:
                    expected = times_round(power_round((m, terms), times, many), expected)
                self.same(round_after(program, row), expected)

    def test_edges(self):
        for m in MODULI:
            row = (m, (1, 0, m - 1))
            for program in ((m, ()), (m, (((), 0),)), (m, ((((0, 1), (1, 1)), 0), ((), 0)))):
                self.same(round_after(program, row), row)
            self.same(round_after((m, ((((0, 1), (1, 1)), MOST), ((), 1))), row), (m, (0, 0, 0)))
            self.same(round_after((m, ((((1, 1),), MOST),)), row), (m, (0, m - 1, 1)))
            self.same(round_after((m, ((((-1, 1),), MOST - 1),)), row), row)
            self.same(round_after((m, ((((0, 1), (4, m - 1)), 1),)), (m, (m - 1,))), (m, (0,)))

    def test_nought_modulo_one_prime(self):
        for m in COMPOSITE:
            for prime in MODULI[m]:
                told = round_after((m, ((((0, prime), (1, prime)), MOST),)), (m, (1,) * 5))
                self.same([value % prime for value in told[1]], [0] * 5)
                self.same([value % (m // prime) for value in told[1]], [pow(2 * prime, MOST, m // prime)] * 5)

    def test_at_the_limits(self):
        chance = Random(5)
        for m in MODULI:
            steps = tuple((some_rule(chance, m, -40, 40, 81)[1], MOST - k) for k in range(6))
            row = some_round(chance, m, 60)
            told = round_after((m, steps), row)
            other = round_after((m, steps[3:]), round_after((m, steps[:3]), row))
            self.same(told, other)
            small = (m, tuple((tuple((d, 1 + d * d % (m - 1)) for d in range(-4, 5)), MOST - k) for k in range(6)))
            expected = row
            for terms, times in small[1]:
                expected = times_round(power_round((m, terms), times, 60), expected)
            self.same(round_after(small, row), expected)


def walked_on(rule, row):
    """The tuple (begin, length, rows) by which a round row comes again, all rows walked."""
    rows, seen = [], {}
    while row not in seen:
        seen[row] = len(rows)
        rows.append(row)
        row = round_behind(rule, row)
    return seen[row], len(rows) - seen[row], rows


def power_round(rule, times, many):
    """What so many steps leave of the one value 1 at the place 0, by squares."""
    made, square = (1,) + (0,) * (many - 1), round_behind(rule, (rule[0], (1,) + (0,) * (many - 1)))[1]
    while times:
        if times & 1:
            made = circled(made, square, rule[0])
        square = circled(square, square, rule[0])
        times >>= 1
    return rule[0], made


def circled(one, other, modulus):
    many = len(one)
    sums = [0] * many
    for k, value in enumerate(one):
        if value:
            for j, more in enumerate(other):
                sums[(k + j) % many] += value * more
    return tuple(total % modulus for total in sums)


def times_round(one, row):
    return row[0], circled(one[1], row[1], row[0])


class RoundsAhead(Case):

    def test_all_rows(self):
        chance, seen = Random(11), set()
        for m, many in moduli_and_lengths(1300):
            for rule in [some_rule(chance, m) for _ in range(3)] + [(m, ((0, 1), (1, m - 1)))]:
                found = {}
                for first in all_rows(m, many):
                    found.setdefault(round_behind(rule, first), []).append(first)
                rows = all_rows(m, many)
                for row in rows if len(rows) < 40 else chance.sample(rows, 40):
                    told = rounds_ahead(rule, row)
                    firsts = found.get(row, [])
                    kind = ("none", "one", "many")[min(len(firsts), 2)]
                    seen.add(kind)
                    self.same(told[0], kind)
                    self.same(len(told), {"none": 1, "one": 2, "many": 3}[kind])
                    if firsts:
                        self.assertIn(told[1], firsts)
                        self.same(is_round(told[1]), True)
                    if kind == "many":
                        self.same(told[2], len(firsts))
                    self.answers(told, rounds_ahead, BOTH, [rule, row])
                    barred = round_bar(rule, row)
                    self.same(barred is None, bool(firsts))
                    if barred is not None:
                        self.same(is_round_bar(rule, row, barred), True)
                        self.answers(True, round_bars, BOTH + ["value"], [rule, row, barred])
                    self.answers(barred, round_bar, BOTH, [rule, row])
        self.assertEqual(seen, {"none", "one", "many"})

    def test_long_rows(self):
        chance = Random(12)
        for m in MODULI:
            for many in (8, 9, 12, 26, 28, 30, 49, 59, 60):
                for _ in range(3):
                    rule, first = some_rule(chance, m), some_round(chance, m, many)
                    row = round_behind(rule, first)
                    told = rounds_ahead(rule, row)
                    self.same(round_behind(rule, told[1]), row)
                    self.same(len(told[1][1]), many)
                    self.same(told[0] == "one", told[1:] == (first,))
                    self.same(round_bar(rule, row), None)
                    row = some_round(chance, m, many)
                    barred = round_bar(rule, row)
                    self.same(rounds_ahead(rule, row) == ("none",), barred is not None)
                    if barred is not None:
                        self.same([is_round_bar(rule, row, barred), round_bars(rule, row, barred)], [True, True])

    def test_numbers_of_rows_ahead(self):
        for prime in PRIMES:
            for many in (12, 30, 60):
                row = (prime, (0,) * many)
                self.same(rounds_ahead((prime, ()), row)[2], prime ** many)
                self.same(rounds_ahead((prime, ((0, 1), (1, prime - 1))), row)[2], prime)
                self.same(rounds_ahead((prime, ((0, 1), (2, prime - 1))), row)[2], prime ** 2)
                self.same(rounds_ahead((prime, ((-1, 1), (2, prime - 1))), row)[2], prime ** 3)
                self.same(rounds_ahead((prime, ((4, prime - 1),)), row), ("one", row))
        for m in COMPOSITE:
            low, high = MODULI[m]
            row = (m, (0,) * 12)
            self.same(rounds_ahead((m, ((0, 1), (3, m - 1))), row)[2], m ** 3)
            self.same(rounds_ahead((m, ((0, low), (3, m - low))), row)[2], low ** 12 * high ** 3)
            self.same(rounds_ahead((m, ((0, high), (3, m - high))), row)[2], high ** 12 * low ** 3)

    def test_one_value_and_fewer_values_than_the_rule_is_wide(self):
        for m in MODULI:
            for many in (1, 2, 3):
                for rule in ((m, ((-4, 1), (4, m - 1))), (m, tuple((d, 1) for d in range(-4, 5))),
                             (m, ((-3, 1), (1, 1), (4, m - 1)))):
                    rows = all_rows(m, many) if m ** many < 300 else [(m, (k, m - 1, 0)) for k in range(m)]
                    for row in rows:
                        told = rounds_ahead(rule, row)
                        if told[0] == "none":
                            self.same(is_round_bar(rule, row, round_bar(rule, row)), True)
                        else:
                            self.same(round_behind(rule, told[1]), row)
            self.same(rounds_ahead((m, ((3, 1),)), (m, (m - 1,))), ("one", (m, (m - 1,))))
            self.same(rounds_ahead((m, ((-1, 1), (3, m - 1))), (m, (0,)))[2], m)
            self.same(rounds_ahead((m, ((-1, 1), (3, m - 1))), (m, (1,))), ("none",))


class RoundBars(Case):

    def test_all_weights_of_small_rings(self):
        chance = Random(21)
        for m, many in moduli_and_lengths(220):
            for rule in (some_rule(chance, m, -2, 2), (m, ((0, 1), (1, m - 1)))):
                for _ in range(3):
                    row = some_round(chance, m, many)
                    for prime in MODULI[m]:
                        for weights in product(range(prime), repeat=many):
                            value = (prime, weights)
                            self.same(round_bars(rule, row, value), is_round_bar(rule, row, value))

    def test_any_objects(self):
        for m in MODULI:
            rule, row = (m, ((0, 1), (1, m - 1))), (m, (1, 0, 0, 1) if m > 2 else (1, 0, 0))
            good = round_bar(rule, row)
            self.same(round_bars(rule, row, good), True)
            for odd in odd_objects():
                self.same(round_bars(rule, row, odd), False)
            for odd in spoiled(good):
                self.answers(is_round_bar(rule, row, odd), round_bars, BOTH + ["value"], [rule, row, odd])
            prime, weights = good
            for odd in ((prime, list(weights)), list(good), (prime, weights + weights[:1]), (prime, weights[1:]),
                        (prime, tuple(weight == 1 for weight in weights)), (prime, (0,) * len(weights)),
                        (prime, tuple(weight + prime for weight in weights)), (prime, weights, ()), (weights, prime),
                        (m + 1, weights), (str(prime), weights), (prime, (1,) + (0,) * (len(weights) - 1)), None):
                self.same(round_bars(rule, row, odd), False)

    def test_bars_for_another_prime(self):
        for m in COMPOSITE:
            low, high = MODULI[m]
            rule = (m, ((0, 1), (1, m - 1)))
            for prime, other in ((low, high), (high, low)):
                row = (m, (other, 0, 0))
                self.same(round_bar(rule, row)[0], prime)
                self.same(round_bars(rule, row, (prime, (1, 1, 1))), True)
                self.same(round_bars(rule, row, (other, (1, 1, 1))), False)
                self.same(round_bars(rule, row, (m, (1, 1, 1))), False)

    def test_rules_nought_modulo_some_prime(self):
        for m in MODULI:
            for values in ((0, 0, 1), (0, m - 1, 0)):
                told = round_bar((m, ()), (m, values))
                self.same(is_round_bar((m, ()), (m, values), told), True)
            self.same(round_bar((m, ()), (m, (0, 0))), None)
            self.same(round_bars((m, ()), (m, (0, 1)), (MODULI[m][0], (1, 1))), True)
            self.same(round_bars((m, ()), (m, (0, 1)), (MODULI[m][0], (1, 0))), False)
        for m in COMPOSITE:
            for prime in MODULI[m]:
                rule, row = (m, ((0, prime),)), (m, (prime, 0, prime))
                self.same(rounds_ahead(rule, row)[2], prime ** 3)
                self.same(round_bar(rule, row), None)
                self.same(round_bar(rule, (m, (prime, 0, 1)))[0], prime)


class LeastAhead(Case):

    def judged(self, rule, row, most=16):
        """Judged by solving for each number of times anew, with all rows where they are few, else with rounds_ahead."""
        told = least_ahead(rule, row)
        if told is None:
            return None
        times, first = told
        self.same(len(first[1]), times * len(row[1]))
        self.same(is_round(first), True)
        self.same(round_behind(rule, first), (row[0], row[1] * times))
        for fewer in range(1, min(times, most)):
            written = (row[0], row[1] * fewer)
            # No row is ahead of it: weights tell so, which are judged by themselves.
            self.same(is_round_bar(rule, written, round_bar(rule, written)), True)
        return times

    def test_all_small_rows(self):
        chance = Random(31)
        for m, many in moduli_and_lengths(130):
            for rule in [some_rule(chance, m, -1, 1) for _ in range(2)] + [(m, ((0, 1), (1, m - 1)))]:
                rows = all_rows(m, many)
                for row in chance.sample(rows, min(12, len(rows))):
                    told = self.judged(rule, row)
                    self.answers(least_ahead(rule, row), least_ahead, BOTH, [rule, row])
                    noughts = [p for p in MODULI[m] if not left_modulo(rule, p)]
                    barred = any(value % p for p in noughts for value in row[1])
                    self.same(told is None, barred)

    def test_longer_rows(self):
        chance = Random(32)
        for m in MODULI:
            for many in (5, 7, 8, 11, 12):
                for _ in range(3):
                    rule, row = some_rule(chance, m), some_round(chance, m, many)
                    if all(left_modulo(rule, p) for p in MODULI[m]):
                        self.assertIsNotNone(self.judged(rule, row))

    def test_known_numbers(self):
        # Modulo 2 the sum of the two cells beside has (1 + x) ** 2 in it.
        both = (2, ((-1, 1), (1, 1)))
        for values, times in (((0,), 1), ((1,), 4), ((1, 0), 2), ((1, 1), 2), ((1, 0, 0), 4), ((1, 1, 0), 1)):
            self.same(self.judged(both, (2, values)), times)
        for prime in PRIMES:
            # x - 1 so often: the row of ones is left by a row on p ** k values exactly if this is more than so often.
            for often in range(1, 9):
                rule = power_of((prime, ((0, prime - 1), (1, 1))), often)
                rule = (prime, tuple((d - 4, c) for d, c in rule[1]))
                expected = 1
                while expected < often + 1:
                    expected *= prime
                self.same(self.judged(rule, (prime, (1,))), expected)

    def test_numbers_of_both_primes(self):
        for m in COMPOSITE:
            low, high = MODULI[m]
            rule = (m, ((0, m - 1), (1, 1)))
            self.same(self.judged(rule, (m, (1,))), m)
            self.same(self.judged(rule, (m, (low,))), high)
            self.same(self.judged(rule, (m, (high,))), low)
            self.same(self.judged(rule, (m, (low, m - low))), 1)

    def test_none(self):
        for m in MODULI:
            self.same(least_ahead((m, ()), (m, (0, 1))), None)
            self.same(least_ahead((m, ()), (m, (0, 0)))[0], 1)
        for m in COMPOSITE:
            for prime in MODULI[m]:
                rule = (m, ((0, prime), (1, m - prime)))
                self.same(least_ahead(rule, (m, (1,))), None)
                other = m // prime
                self.same(least_ahead(rule, (m, (other, 0))), None)
                self.same(self.judged(rule, (m, (prime,))), other)

    def test_the_greatest_numbers(self):
        for m in MODULI:
            rule = (m, tuple((d, c) for d, c in power_of((m, ((0, m - 1), (1, 1))), 8)[1]))
            rule = (m, tuple((d - 4, c) for d, c in rule[1]))
            row = (m, (1,) + (0,) * 10)
            expected = 1
            for prime in MODULI[m]:
                share = 1
                while share < 9:
                    share *= prime
                expected *= share
            self.same(self.judged(rule, row, 6), expected)


class ComesAgain(Case):

    def test_walked_on(self):
        chance = Random(41)
        for m, many in moduli_and_lengths(20000):
            for _ in range(4):
                rule, row = some_rule(chance, m), some_round(chance, m, many)
                begin, length, _ = walked_on(rule, row)
                self.answers((begin, length), comes_again, BOTH, [rule, row])

    def test_rows_that_die_out(self):
        for prime in PRIMES:
            for many in range(1, 13):
                rule, row = (prime, ((0, 1), (1, prime - 1))), (prime, (1,) + (0,) * (many - 1))
                share = gcd(many, prime ** 4)
                begin, length = comes_again(rule, row)
                self.same(begin, share)
                if share == many:
                    self.same(length, 1)
                else:
                    self.judged_by_powers(rule, row, begin, length)

    def judged_by_powers(self, rule, row, begin, length):
        """It is the same so far on, not a step earlier, and not any part of it far on."""
        def behind(times):
            return times_round(power_round(rule, times, len(row[1])), row)
        first = behind(begin)
        self.same(behind(begin + length), first)
        if begin:
            self.assertNotEqual(behind(begin - 1), behind(begin - 1 + length))
        for q in primes_in(length):
            self.assertNotEqual(behind(begin + length // q), first)

    def test_far_beyond_what_is_walked(self):
        chance, longest = Random(42), 0
        for m in MODULI:
            for many in (7, 8, 9, 10, 11, 12):
                for _ in range(4):
                    rule, row = some_rule(chance, m), some_round(chance, m, many)
                    begin, length = comes_again(rule, row)
                    longest = max(longest, length)
                    self.judged_by_powers(rule, row, begin, length)
        self.assertGreater(longest, 10 ** 6)

    def test_what_only_moves_and_multiplies(self):
        for m in MODULI:
            for offset, factor in product(range(-4, 5), range(1, m)):
                for many in (1, 5, 12):
                    row = (m, (1,) + (0,) * (many - 1))
                    begin, length, _ = walked_on((m, ((offset, factor),)), row)
                    self.same(comes_again((m, ((offset, factor),)), row), (begin, length))

    def test_nought(self):
        for m in MODULI:
            self.same(comes_again((m, ()), (m, (0, 0, 0))), (0, 1))
            self.same(comes_again((m, ()), (m, (0, 1, 0))), (1, 1))
            self.same(comes_again((m, ((0, 1),)), (m, (0, 1, 0))), (0, 1))
        for m in COMPOSITE:
            for prime in MODULI[m]:
                rule = (m, ((1, prime),))
                for row in ((m, (1, 0, 0, 0, 0)), (m, (prime, 0, 0, 0, 0))):
                    begin, length, _ = walked_on(rule, row)
                    self.same(comes_again(rule, row), (begin, length))

    def test_begins_and_lengths_of_both_primes(self):
        chance = Random(43)
        for m in COMPOSITE:
            for many in (4, 6, 9, 12):
                rule, row = some_rule(chance, m), some_round(chance, m, many)
                told = []
                for prime in MODULI[m]:
                    rests = (prime, tuple(value % prime for value in row[1]))
                    told.append(comes_again((prime, left_modulo(rule, prime)), rests))
                expected = max(begin for begin, _ in told), lcm(*[length for _, length in told])
                self.same(comes_again(rule, row), expected)


def primes_in(number):
    found, divisor = [], 2
    while divisor * divisor <= number:
        if number % divisor == 0:
            found.append(divisor)
            while number % divisor == 0:
                number //= divisor
        divisor += 1
    return found + [number] * (number > 1)
