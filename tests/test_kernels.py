"""Promise 16: free_cells, dying_cell, dying_round, dies_in, both_die."""

from itertools import product
from math import lcm
from random import Random

from nearadds.errors import InvalidCells, InvalidNumber, InvalidRule, Unlike
from nearadds.kernels import both_die, dies_in, dying_cell, dying_round, free_cells
from tests.cases import Case
from tests.worked import FAR, MODULI, PRIMES, cell_behind, kept_by, order_by_steps, power_of, product_of, rest_of_x
from tests.worked import round_behind, some_round, some_rule, times as product_by, told_integer, told_tuple, spoiled
from tests.worked import walked

MOST = 10 ** 30
BOTH = ["one", "other"]
NAMES = ["rule", "times", "values"]


def some_live(chance, prime, least=-4, greatest=4, wide=True):
    """A rule that is not nought, with two terms or more if it is to be wide."""
    while True:
        rule = some_rule(chance, prime, least, greatest)
        if len(rule[1]) > int(wide):
            return rule


def width(rule):
    return rule[1][-1][0] - rule[1][0][0]


def dying(rule, times, values, low, high):
    """The cells of such a row, walked: so many steps make each cell the sum that is now 0."""
    return walked(power_of(rule, times)[1], values, low, high, rule[0])


def some_values(chance, rule, times):
    return tuple(chance.randrange(rule[0]) for _ in range(times * width(rule)))


class FreeCells(Case):

    def test_free_cells(self):
        chance = Random(1)
        for prime in PRIMES:
            for times in (0, 1, 2, 77, MOST - 1, MOST):
                rule = some_live(chance, prime, wide=False)
                self.answers(times * width(rule), free_cells, NAMES[:2], [rule, times])
            self.same(free_cells((prime, ((-4, 1), (4, prime - 1))), MOST), 8 * MOST)
            self.same(free_cells((prime, ((3, 1),)), MOST), 0)

    def test_times_out_of_range(self):
        for prime in PRIMES:
            for bad in (-1, MOST + 1, FAR, -FAR):
                for terms in (((0, 1),), ((0, 1), (1, 1))):
                    self.refused_both(InvalidNumber, bad, free_cells, NAMES[:2], [(prime, terms), bad])

    def test_they_tell_a_row_of_which_all_cells_become_0(self):
        chance = Random(2)
        for prime in PRIMES:
            rule = some_live(chance, prime, -2, 2)
            times = chance.randint(1, 4)
            many = free_cells(rule, times)
            for k in range(many):
                cells = dying(rule, times, [int(m == k) for m in range(many)], -40, 40)
                for _ in range(times):
                    inner = sorted(cells)[2:-2]
                    cells = {i: cell_behind(rule, lambda at: cells[at], i) for i in inner}
                self.assertFalse(any(cells.values()))


class DyingCells(Case):

    def test_walked_forwards_and_backwards(self):
        chance = Random(11)
        for prime in PRIMES:
            for _ in range(12):
                rule = some_live(chance, prime)
                times = chance.randint(1, 40 // width(rule))
                values = some_values(chance, rule, times)
                cells = dying(rule, times, values, -150, 150)
                self.assertTrue(kept_by(power_of(rule, times)[1], cells, -150, 150, prime))
                for place in list(range(-5, times * width(rule) + 5)) + [-150, 150, -77, 101]:
                    self.same(dying_cell(rule, times, values, place), cells[place])
                self.answers(cells[149], dying_cell, NAMES + ["place"], [rule, times, values, 149])

    def test_far_places_of_rows_that_come_round(self):
        chance = Random(12)
        for prime in PRIMES:
            tried = 0
            while tried < 8:
                rule = some_live(chance, prime, -1, 1)
                times = chance.randint(1, 3)
                values = some_values(chance, rule, times)
                cells = dying(rule, times, values, 0, 6000)
                many = len(values)
                found = [n for n in range(1, 3000) if [cells[n + k] for k in range(many)] == list(values)]
                if found:
                    tried += 1
                    self.answers(found[0], dying_round, NAMES, [rule, times, values])
                    for place in (FAR, -FAR, 10 ** 50, -10 ** 50 - 3, chance.randint(-FAR, FAR)):
                        self.same(dying_cell(rule, times, values, place), cells[place % found[0]])

    def test_far_places_by_squares(self):
        # What x to the place leaves is worked out apart, by squares and remainders.
        chance = Random(13)
        for prime in PRIMES:
            for _ in range(3):
                rule = some_live(chance, prime)
                times = chance.randint(1, max(1, 16 // width(rule)))
                values = some_values(chance, rule, times)
                poly = monic_of(power_of(rule, times))
                for place in (FAR, FAR - chance.randint(0, 10 ** 50)):
                    rest = rest_of_x(place, poly, prime)
                    expected = sum(value * much for value, much in zip(values, rest)) % prime
                    self.same(dying_cell(rule, times, values, place), expected)

    def test_backwards_is_forwards_turned_about(self):
        chance = Random(14)
        for prime in PRIMES:
            for _ in range(3):
                rule = some_live(chance, prime)
                turned = (prime, tuple(sorted((-d, c) for d, c in rule[1])))
                values = some_values(chance, rule, 2)
                place = chance.randint(0, FAR)
                told = dying_cell(rule, 2, values, -place)
                self.same(dying_cell(turned, 2, values[::-1], place + len(values) - 1), told)

    def test_far_cells_side_by_side_keep_the_sum(self):
        chance = Random(15)
        for prime in PRIMES:
            rule = (prime, ((-4, 1), (0, prime - 1), (3, 1), (4, 1)))
            values = some_values(chance, rule, 5)
            for near in (FAR, -FAR):
                cells = {near + k: dying_cell(rule, 5, values, near + k) for k in range(44)}
                self.assertTrue(kept_by(power_of(rule, 5)[1], cells, near, near + 43, prime))

    def test_numbers_of_free_cells(self):
        for prime in PRIMES:
            for wide, most in ((1, 40), (2, 20), (3, 13), (8, 5)):
                rule = (prime, ((-4, 1), (wide - 4, 1)))
                for times in (1, most):
                    values = (1,) * (times * wide)
                    self.same(dying_cell(rule, times, values, 0), 1)
                    self.assertGreater(dying_round(rule, times, values), 0)
                for bad in (0, -1, most + 1, MOST, -FAR):
                    self.refused_both(InvalidNumber, bad, dying_cell, NAMES + ["place"], [rule, bad, (1,), 0])
                    self.refused_both(InvalidNumber, bad, dying_round, NAMES, [rule, bad, (1,)])
            for bad in (0, 1, 40, MOST):
                self.refused_both(InvalidNumber, bad, dying_cell, NAMES + ["place"], [(prime, ((3, 1),)), bad, (), 0])

    def test_values(self):
        for prime in PRIMES:
            rule, good = (prime, ((-1, 1), (0, 1), (1, 1))), (0, prime - 1, 1, 0)
            for odd in spoiled(good):
                fits = told_tuple(odd, 4) and all(told_integer(value, 0, prime - 1) for value in odd)
                if fits:
                    self.same(dying_cell(rule, 2, odd, 2), odd[2])
                else:
                    self.refused(InvalidCells, odd, dying_cell, rule, 2, odd, 2)
                    self.refused(InvalidCells, odd, dying_round, rule, 2, odd)


def monic_of(rule):
    """The coefficients of a rule from the least offset on, divided by the last one."""
    terms = dict(rule[1])
    share = pow(rule[1][-1][1], -1, rule[0])
    return tuple(terms.get(d, 0) * share % rule[0] for d in range(min(terms), max(terms) + 1))


class DyingRounds(Case):

    def test_all_rows_of_small_rules(self):
        for rule, times in (((2, ((-1, 1), (1, 1))), 1), ((2, ((-1, 1), (1, 1))), 3), ((2, ((0, 1), (1, 1))), 6),
                            ((2, ((-1, 1), (0, 1), (1, 1))), 2), ((2, ((0, 1), (1, 1), (3, 1))), 2),
                            ((3, ((0, 1), (1, 1))), 4), ((3, ((0, 2), (1, 1))), 4), ((3, ((0, 1), (2, 1))), 2),
                            ((3, ((0, 2), (1, 1), (2, 1))), 2), ((5, ((0, 1), (1, 3))), 2), ((7, ((-1, 1), (1, 5))), 1),
                            ((2, ((0, 1), (1, 1), (4, 1))), 1), ((5, ((-1, 2), (0, 1), (1, 2))), 1)):
            many = times * width(rule)
            for values in product(range(rule[0]), repeat=many):
                cells = dying(rule, times, values, 0, 400)
                found = [n for n in range(1, 400 - many) if [cells[n + k] for k in range(many)] == list(values)]
                self.same(dying_round(rule, times, values), found[0])

    def test_nought(self):
        for prime in PRIMES:
            for times in (1, 5):
                rule = (prime, ((-4, 1), (4, 1)))
                self.same(dying_round(rule, times, (0,) * 8 * times), 1)

    def test_long_rounds(self):
        """The orders of known prime factors, and powers of the prime."""
        chance = Random(21)
        for prime, poly in ((2, (1, 0, 1, 1, 1, 0, 0, 0, 1)), (3, (1, 0, 2, 1, 0, 1)), (5, (2, 0, 1, 0, 1)),
                            (7, (3, 1, 0, 1)), (11, (7, 1, 1)), (13, (2, 1, 1))):
            turns = order_by_steps(poly, prime)
            rule = (prime, tuple((k - 4, c) for k, c in enumerate(poly) if c))
            for times in (1, 2, 3, prime, prime + 1):
                if times * (len(poly) - 1) <= 40:
                    # A row that less steps do not make 0: its last cell of the first ones is not 0.
                    values = (0,) * (times * (len(poly) - 1) - 1) + (1,)
                    share = 1
                    while share < times:
                        share *= prime
                    told = dying_round(rule, times, values)
                    self.assertEqual(turns * share % told, 0)
                    self.judged_round(rule, times, values, told, turns)
                    values = some_values(chance, rule, times)
                    self.judged_round(rule, times, values, dying_round(rule, times, values), turns)

    def judged_round(self, rule, times, values, told, turns):
        """The row is the same so far on, and not any part of it far on."""
        def same_at(far):
            return all(dying_cell(rule, times, values, far + k) == value for k, value in enumerate(values))
        self.assertTrue(same_at(told))
        for q in {q for q in range(2, turns + 14) if told % q == 0 and all(q % d for d in range(2, q))}:
            self.assertFalse(same_at(told // q))

    def test_two_prime_factors(self):
        for prime, one, other in ((2, (1, 1, 1), (1, 1, 0, 1)), (2, (1, 1), (1, 0, 1, 1)), (3, (1, 1), (1, 0, 1)),
                                  (3, (2, 1), (2, 1, 1)), (5, (2, 1), (2, 0, 1)), (7, (1, 0, 1), (2, 1))):
            poly = product_by(one, other, prime)
            rule = (prime, tuple((k, c) for k, c in enumerate(poly) if c))
            turns = [order_by_steps(part, prime) for part in (one, other)]
            for times in (1, 2, 4):
                values = (0,) * (times * (len(poly) - 1) - 1) + (1,)
                share = 1
                while share < times:
                    share *= prime
                self.same(dying_round(rule, times, values), lcm(*turns) * share)
            # Rows that one of the factors alone makes 0 come round as that one tells.
            for part, turn in zip((one, other), turns):
                cells = walked([(k, c) for k, c in enumerate(part) if c], (1,) + (0,) * (len(part) - 2), 0, 60, prime)
                values = tuple(cells[k] for k in range(2 * (len(poly) - 1)))
                self.same(dying_round(rule, 2, values), turn)

    def test_the_longest_round(self):
        # Of 13 ** 8 - 1 cells; the polynomial is found by trying.
        chance, rule = Random(22), None
        while rule is None:
            poly = (chance.randrange(1, 13), *[chance.randrange(13) for _ in range(7)], 1)
            one = [1] + [0] * 7
            if rest_of_x(13 ** 8 - 1, poly, 13) == one:
                if all(rest_of_x((13 ** 8 - 1) // q, poly, 13) != one for q in (2, 3, 5, 7, 17, 14281)):
                    rule = (13, tuple((k - 4, c) for k, c in enumerate(poly) if c))
        self.same(dying_round(rule, 1, (0,) * 7 + (1,)), 13 ** 8 - 1)
        self.same(dying_round(rule, 5, (0,) * 39 + (1,)), 13 * (13 ** 8 - 1))
        self.same(dying_round(rule, 1, (0,) * 8), 1)


class DiesIn(Case):

    def test_walked_on(self):
        chance, seen = Random(31), set()
        for prime in PRIMES:
            for many in (1, 2, 3, 4, 5, 6, 7, 8, 9, 10, 12, 14, 16, 26):
                for _ in range(6):
                    rule, row = some_live(chance, prime, wide=False), some_round(chance, prime, many)
                    if chance.randrange(2):
                        # A row that a rule with the sum 0 has left more likely dies out.
                        rule = (prime, ((0, 1), (chance.choice([1, 2, 3, 4]), prime - 1)))
                    rows = [row]
                    for _ in range(many + 2):
                        rows.append(round_behind(rule, rows[-1]))
                    found = [k for k, later in enumerate(rows) if not any(later[1])]
                    self.answers(found[0] if found else None, dies_in, ["rule", "row"], [rule, row])
                    seen.add(bool(found))
        self.assertEqual(seen, {True, False})

    def test_as_long_as_can_be(self):
        for prime, many in ((2, 1), (2, 2), (2, 8), (2, 32), (3, 9), (3, 27), (5, 25), (7, 49), (11, 11), (13, 13)):
            rule, row = (prime, ((0, 1), (1, prime - 1))), (prime, (1,) + (0,) * (many - 1))
            self.same(dies_in(rule, row), many)
            self.same(dies_in((prime, ((0, 1), (1, 1))), row), many if prime == 2 else None)

    def test_nought_and_60_values(self):
        for prime in PRIMES:
            self.same(dies_in((prime, ((0, 1),)), (prime, (0,) * 60)), 0)
            self.same(dies_in((prime, ((0, 1),)), (prime, (1,) * 60)), None)
            self.same(dies_in((prime, ((-4, 1), (3, prime - 1))), (prime, (1,) * 60)), 1)
            self.same(dies_in((prime, ((0, 1), (1, prime - 1))), (prime, (1,) + (0,) * 59)), None)


class BothDie(Case):

    def test_all_rows_that_one_makes_0(self):
        chance = Random(41)
        for prime in PRIMES:
            reach = 2 if prime < 4 else 1
            for _ in range(12):
                one, other = some_live(chance, prime, -reach, reach, False), some_live(chance, prime, -2, 2, False)
                if chance.randrange(2) and prime < 4:
                    shared = some_live(chance, prime, 0, 1)
                    one, other = product_of(some_live(chance, prime, 0, 1), shared), product_of(other, shared)
                count = 0
                for values in product(range(prime), repeat=width(one)):
                    cells = dying(one, 1, values, -20, 20)
                    inner = [cell_behind(other, lambda at: cells[at], i) for i in range(-15, 16)]
                    count += not any(inner)
                told = both_die(one, other)
                self.same(prime ** told, count)
                self.answers(told, both_die, BOTH, [one, other])

    def test_of_a_rule_and_itself(self):
        chance = Random(42)
        for prime in PRIMES:
            for _ in range(5):
                rule = some_live(chance, prime, wide=False)
                moved = (prime, tuple((d - 1, prime - c) for d, c in rule[1]))
                self.same(both_die(rule, rule), width(rule))
                self.same(both_die(rule, (prime, ((0, 1),))), 0)
                if rule[1][0][0] > -4:
                    self.same(both_die(rule, moved), width(rule))

    def test_powers(self):
        for prime in PRIMES:
            for a, b in product(range(5), repeat=2):
                one = power_of((prime, ((0, 1), (1, 1))), a)
                other = product_of(power_of((prime, ((0, 1), (1, 1))), b), (prime, ((-4, 1),)))
                self.same(both_die(one, other), min(a, b))


class Refused(Case):

    def test_moduli_that_are_no_primes_and_rules_that_are_nought(self):
        good = (2, ((0, 1), (1, 1)))
        for bad in [(m, ((0, 1), (1, 1))) for m in MODULI if m not in PRIMES] + [(p, ()) for p in PRIMES] + [(6, ())]:
            for call, names, further in ((free_cells, NAMES[:2], [1]), (dying_cell, NAMES + ["place"], [1, (1,), 0]),
                                         (dying_round, NAMES, [1, (1,)]), (dies_in, ["rule", "row"], [(2, (1,))]),
                                         (both_die, BOTH, [good])):
                self.refused_both(InvalidRule, bad, call, names, [bad] + further)
            self.refused_both(InvalidRule, bad, both_die, BOTH, [good, bad])
            self.refused_both(InvalidRule, bad, both_die, BOTH, [bad, (3, ())])

    def test_unlike(self):
        for one, other in product(PRIMES, repeat=2):
            if one != other:
                rule = (one, ((0, 1), (1, 1)))
                self.refused_both(Unlike, other, both_die, BOTH, [rule, (other, ((0, 1),))])
                self.refused_both(Unlike, other, dies_in, ["rule", "row"], [rule, (other, (0,))])
        for m in MODULI:
            if m not in PRIMES:
                self.refused_both(Unlike, m, dies_in, ["rule", "row"], [(2, ((0, 1),)), (m, (0, 1))])
