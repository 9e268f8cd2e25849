"""Promise 15: ahead, bar, bars, steps_back, row_back."""

from itertools import product
from random import Random

from nearadds.backward import ahead, bar, bars, row_back, steps_back
from nearadds.errors import InvalidNumber, InvalidRule
from nearadds.rules import is_row
from tests.cases import Case
from tests.worked import FAR, MODULI, PRIMES, by_remainders, kept_by, left_modulo, odd_objects, power_of, row_behind
from tests.worked import some_row, some_rule, spoiled, sum_of, told_integer, told_tuple, turned_about, walked

BOTH = ["rule", "row"]
COMPOSITE = [m for m in MODULI if len(MODULI[m]) == 2]


def live_rule(chance, modulus, least=-4, greatest=4, wide=False):
    """A rule that is nought modulo no prime, with two terms or more modulo each one if it is to be wide."""
    while True:
        rule = some_rule(chance, modulus, least, greatest)
        if all(len(left_modulo(rule, prime)) > int(wide) for prime in MODULI[modulus]):
            return rule


def width(rule, prime):
    left = left_modulo(rule, prime)
    return left[-1][0] - left[0][0]


def weights_of(rule, prime):
    """The pairs of the sum over factor times w at j - offset."""
    return turned_about(left_modulo(rule, prime))


def is_bar(rule, row, value):
    """Whether any object is a bar, by walking the endless row; only of rows whose places are near 0."""
    if not (told_tuple(value, 2) and told_integer(value[0]) and value[0] in MODULI[rule[0]]):
        return False
    prime, values = value
    if not (told_tuple(values, width(rule, prime)) and all(told_integer(v, 0, prime - 1) for v in values)):
        return False
    if not values:
        return False
    places = [place for place, _ in row[1]] + [0]
    cells = walked(weights_of(rule, prime), values, min(places), max(places), prime)
    return sum(value * cells[place] for place, value in row[1]) % prime != 0


class Ahead(Case):

    def test_rows_that_stepped_forward(self):
        chance = Random(1)
        for m in MODULI:
            for near in (0, 0, 0, FAR - 100, 100 - FAR):
                for rule in (live_rule(chance, m), live_rule(chance, m, -1, 1), live_rule(chance, m, wide=True)):
                    first = some_row(chance, m, 8, near)
                    row = row_behind(rule, first)
                    self.answers(first, ahead, BOTH, [rule, row])
                    self.same(bar(rule, row), None)
                    self.same(is_row(ahead(rule, row)), True)

    def test_one_cell_more_has_none_ahead(self):
        # One cell alone has a row ahead of it modulo a prime only if the rule is one term there.
        chance = Random(2)
        for m in MODULI:
            for _ in range(12):
                rule = live_rule(chance, m, wide=True)
                row = row_behind(rule, some_row(chance, m, 8))
                row = sum_of(row, (m, ((chance.randint(-40, 40), chance.randrange(1, m)),)))
                self.answers(None, ahead, BOTH, [rule, row])
                self.judged_bar(rule, row)

    def judged_bar(self, rule, row):
        told = bar(rule, row)
        self.same(is_bar(rule, row, told), True)
        self.same(bars(rule, row, told), True)
        self.same(bars(rule=rule, row=row, value=told), True)
        self.all_new(told, [rule, row])

    def test_all_small_rows(self):
        """Each row with places from 0 to 4 is judged by all rows that could stand ahead."""
        for m, terms in ((2, ((-1, 1), (1, 1))), (2, ((0, 1), (1, 1), (2, 1))), (3, ((-1, 1), (0, 2))),
                         (3, ((-2, 2), (0, 1))), (6, ((0, 3), (1, 2))), (6, ((-1, 1), (0, 4))), (5, ((1, 1), (2, 3))),
                         (6, ((0, 1), (1, 3)))):
            rule, found, last = (m, terms), {}, 4 if m < 5 else 2
            low, high = terms[0][0], terms[-1][0] + last
            for values in product(range(m), repeat=high - low + 1):
                first = (m, tuple((low + k, value) for k, value in enumerate(values) if value))
                found[row_behind(rule, first)] = first
            for values in product(range(m), repeat=last + 1):
                row = (m, tuple((k, value) for k, value in enumerate(values) if value))
                self.same(ahead(rule, row), found.get(row))
                if row in found:
                    self.same(bar(rule, row), None)
                else:
                    self.judged_bar(rule, row)

    def test_one_term(self):
        for m in MODULI:
            for offset, factor in product((-4, 0, 3), range(1, m)):
                rule, row = (m, ((offset, factor),)), (m, ((-FAR, 1), (350 - FAR, m - 1)))
                if all(factor % prime for prime in MODULI[m]):
                    back = pow(factor, -1, m)
                    expected = (m, ((offset - FAR, back), (offset + 350 - FAR, (m - back) % m)))
                    self.same(ahead(rule, row), expected)
                    self.same([bar(rule, row), steps_back(rule, row)], [None, "endless"])
                else:
                    self.refused_both(InvalidRule, rule, ahead, BOTH, [rule, row])

    def test_one_term_modulo_one_prime_alone(self):
        for m in COMPOSITE:
            for one, other in (MODULI[m], MODULI[m][::-1]):
                # 1 modulo both primes at 0, and modulo the other one alone at 2.
                rule = (m, ((0, 1), (2, by_remainders(m, [int(p == other) for p in MODULI[m]]))))
                self.same(left_modulo(rule, one), ((0, 1),))
                first = (m, ((-3, 1), (5, m - 1)))
                row = row_behind(rule, first)
                self.same(ahead(rule, row), first)
                spoiling = (m, ((7, by_remainders(m, [int(p == one) for p in MODULI[m]])),))
                self.same(ahead(rule, sum_of(row, spoiling)), sum_of(first, spoiling))
                barred = sum_of(row, (m, ((7, 1),)))
                self.same(ahead(rule, barred), None)
                self.same(bar(rule, barred)[0], other)
                self.judged_bar(rule, barred)
                for values in ((), (0,), (1, 1)):
                    self.same(bars(rule, barred, (one, values)), False)

    def test_rows_without_cells(self):
        chance = Random(3)
        for m in MODULI:
            rule = live_rule(chance, m)
            self.same([ahead(rule, (m, ())), bar(rule, (m, ())), steps_back(rule, (m, ()))],
                      [(m, ()), None, "endless"])
            for times in (0, 1, 100):
                self.same(row_back(rule, (m, ()), times), (m, ()))
            self.same(bars(rule, (m, ()), (MODULI[m][0], (1,) * width(rule, MODULI[m][0]))), False)

    def test_rules_nought_modulo_some_prime(self):
        for m in MODULI:
            row = (m, ((0, 1),))
            noughts = [(m, ())] + [(m, ((-1, p), (2, m - p))) for p in MODULI[m] if p != m]
            for rule in noughts:
                for call, further in ((ahead, []), (bar, []), (steps_back, []), (bars, [None]), (row_back, [1])):
                    names = BOTH + {bars: ["value"], row_back: ["times"]}.get(call, [])
                    self.refused_both(InvalidRule, rule, call, names, [rule, row] + further)


class Bars(Case):

    def test_all_values_of_small_rules(self):
        chance = Random(11)
        for m in (2, 3, 5, 6, 10):
            for _ in range(12):
                rule, row = live_rule(chance, m, -1, 1), some_row(chance, m, 5)
                for prime in MODULI[m]:
                    told = list(product(range(prime), repeat=width(rule, prime)))
                    judged = [is_bar(rule, row, (prime, values)) for values in told]
                    self.same([bars(rule, row, (prime, values)) for values in told], judged)

    def test_they_bar_just_the_rows_with_none_ahead(self):
        chance = Random(12)
        for prime in PRIMES:
            for _ in range(20):
                rule, row = live_rule(chance, prime), some_row(chance, prime, 6)
                told = bar(rule, row)
                self.same(told is None, ahead(rule, row) is not None)
                if told is not None:
                    self.same([is_bar(rule, row, told), bars(rule, row, told)], [True, True])

    def test_walked_over_all_cells(self):
        chance = Random(13)
        for m in MODULI:
            for _ in range(6):
                rule = live_rule(chance, m, wide=True)
                row = some_row(chance, m, 30, 0, 200)
                for prime in MODULI[m]:
                    for _ in range(6):
                        values = tuple(chance.randrange(prime) for _ in range(width(rule, prime)))
                        cells = walked(weights_of(rule, prime), values, -250, 250, prime)
                        self.assertTrue(kept_by(weights_of(rule, prime), cells, -250, 250, prime))
                        total = sum(value * cells[place] for place, value in row[1]) % prime
                        self.answers(total != 0, bars, BOTH + ["value"], [rule, row, (prime, values)])

    def test_far_rows(self):
        # Of these rules the endless rows come round quickly: places are told by their remainders.
        chance = Random(14)
        for m in MODULI:
            for rule in ((m, ((-1, 1), (1, m - 1))), (m, ((0, 1), (1, m - 1))), (m, ((-2, 1), (1, m - 1)))):
                for _ in range(6):
                    places = sorted({chance.randint(-FAR, FAR) for _ in range(chance.randint(1, 30))})
                    row = (m, tuple((place, chance.randrange(1, m)) for place in places))
                    near = {}
                    for place, value in row[1]:
                        near[place % 6] = near.get(place % 6, 0) + value
                    near = (m, tuple((place, near[place] % m) for place in sorted(near) if near[place] % m))
                    told = bar(rule, row)
                    self.same(told is None, bar(rule, near) is None)
                    if told is not None:
                        self.same([is_bar(rule, near, told), bars(rule, row, told)], [True, True])
                    for prime in MODULI[m]:
                        values = tuple(chance.randrange(prime) for _ in range(width(rule, prime)))
                        self.same(bars(rule, row, (prime, values)), is_bar(rule, near, (prime, values)))

    def test_far_rows_moved(self):
        # A row so far on is barred by weights that are moved as far, and by none if a row stood ahead.
        chance = Random(15)
        for m in MODULI:
            for by in (FAR - 300, 300 - FAR):
                rule, first = live_rule(chance, m, wide=True), some_row(chance, m, 20)
                row = row_behind(rule, (m, tuple((place + by, value) for place, value in first[1])))
                self.same(bar(rule, row), None)
                row = sum_of(row, (m, ((-by, 1),)))
                told = bar(rule, row)
                self.same(bars(rule, row, told), True)
                # Nothing but the one cell counts: the others have a row ahead of them.
                self.same(bars(rule, (m, ((-by, 1),)), told), True)
                self.same(bars(rule, row_behind(rule, row), told), False)

    def test_any_objects(self):
        chance = Random(16)
        for m in MODULI:
            rule = live_rule(chance, m, -1, 1, True)
            row = sum_of(row_behind(rule, some_row(chance, m, 5)), (m, ((1, 1),)))
            good = bar(rule, row)
            for odd in odd_objects():
                self.same(bars(rule, row, odd), False)
            for odd in spoiled(good):
                self.answers(is_bar(rule, row, odd), bars, BOTH + ["value"], [rule, row, odd])
            prime, values = good
            for odd in ((prime, list(values)), [prime, values], (prime, values + (0,)), (prime, values[:-1]),
                        (prime, values, ()), (values, prime), (prime,), (m + 1, values), (1, values), (True, values),
                        (prime, tuple(v == 1 for v in values)), (prime, values[:-1] + (prime,)),
                        (prime, values[:-1] + (-1,)), (prime, (0,) * len(values)), (str(prime), values),
                        (prime, tuple(str(v) for v in values)), (prime, dict(enumerate(values))), (prime, ())):
                self.answers(is_bar(rule, row, odd), bars, BOTH + ["value"], [rule, row, odd])
                if odd[1:] != (values,):
                    self.same(bars(rule, row, odd), False)

    def test_bars_for_another_prime(self):
        for m in COMPOSITE:
            low, high = MODULI[m]
            rule, row = (m, ((0, 1), (1, m - 1))), (m, ((0, high),))
            self.same([bars(rule, row, (p, (1,))) for p in (low, high, m, 1, 17)], [True, False, False, False, False])
            self.same(bar(rule, row), (low, (1,)))
            self.same(bar(rule, (m, ((5, low),)))[0], high)
            self.same(bars(rule, (m, ((5, low),)), (high, (high - 1,))), True)
            self.same(bars(rule, (m, ((5, low),)), (low, (1,))), False)


class StepsBack(Case):

    def test_so_many_steps_forward(self):
        chance = Random(21)
        for m in PRIMES:
            for steps in (0, 1, 2, 5):
                for near in (0, FAR - 300):
                    rule = live_rule(chance, m, -2, 2, True)
                    # A row of one cell has none ahead of it.
                    row = (m, ((near, chance.randrange(1, m)),))
                    rows = [row]
                    for _ in range(steps):
                        rows.append(row_behind(rule, rows[-1]))
                    self.answers(steps, steps_back, BOTH, [rule, rows[-1]])
                    for k, earlier in enumerate(rows[::-1]):
                        self.answers(earlier, row_back, BOTH + ["times"], [rule, rows[-1], k])
                    for k in (steps + 1, 50, 100):
                        self.same(row_back(rule, rows[-1], k), None)

    def test_step_by_step(self):
        chance = Random(22)
        for m in MODULI:
            for _ in range(10):
                rule, row = live_rule(chance, m, -1, 2, True), some_row(chance, m, 4)
                while not all(left_modulo(row, prime) for prime in MODULI[m]):
                    row = some_row(chance, m, 4)
                row = row_behind(power_of(rule, chance.randint(0, 3)), row)
                steps, found = 0, row
                while found is not None:
                    self.same(row_back(rule, row, steps), found)
                    found, steps = ahead(rule, found), steps + 1
                self.same(steps_back(rule, row), steps - 1)
                self.same(row_back(rule, row, steps), None)

    def test_unlike_numbers_modulo_two_primes(self):
        for m in COMPOSITE:
            rule = (m, ((0, 1), (1, m - 1)))
            for one, other in product(range(4), repeat=2):
                parts = [power_of((p, left_modulo(rule, p)), k) for p, k in zip(MODULI[m], (one, other))]
                left = [turned_about(part[1]) for part in parts]
                places = sorted({place for part in left for place, _ in part})
                row = (m, tuple((place, by_remainders(m, [dict(part).get(place, 0) for part in left]))
                                for place in places))
                self.same(steps_back(rule, row), min(one, other))
                if one != other:
                    self.same(bar(rule, row_back(rule, row, min(one, other)))[0], MODULI[m][int(other < one)])

    def test_nought_modulo_one_prime(self):
        for m in COMPOSITE:
            for one, other in (MODULI[m], MODULI[m][::-1]):
                rule = (m, ((0, 1), (1, m - 1)))
                row = row_behind(power_of(rule, 3), (m, ((7, one),)))
                self.same(steps_back(rule, row), 3)
                self.same(row_back(rule, row, 3), (m, ((7, one),)))

    def test_endless(self):
        for m in MODULI:
            row = (m, ((-5, 1), (0, m - 1)))
            self.same(steps_back((m, ((4, m - 1),)), row), "endless")
            self.same(row_back((m, ((4, m - 1),)), row, 100), (m, ((395, 1), (400, m - 1))))
            self.same(row_back((m, ((4, m - 1),)), row, 99), (m, ((391, m - 1), (396, 1))))
        for m in COMPOSITE:
            for one, other in (MODULI[m], MODULI[m][::-1]):
                rule = (m, ((0, 1), (2, by_remainders(m, [int(p == other) for p in MODULI[m]]))))
                self.same(steps_back(rule, (m, ((3, other),))), "endless")
                self.same(steps_back(rule, (m, ((3, one),))), 0)
                self.same(steps_back(rule, (m, ((3, 1),))), 0)

    def test_times(self):
        rule, row = (6, ((0, 1), (1, 5))), (6, ((0, 1), (3, 2)))
        self.same(row_back(rule, row, 0), row)
        for bad in (-1, 101, -100, FAR, -FAR):
            self.refused_both(InvalidNumber, bad, row_back, BOTH + ["times"], [rule, row, bad])

    def test_100_steps(self):
        for m in MODULI:
            rule = (m, ((-1, 1), (1, m - 1)))
            row, rows = (m, ((FAR - 200, 1),)), []
            for _ in range(101):
                rows.append(row)
                row = row_behind(rule, row)
            self.same(steps_back(rule, rows[100]), 100)
            self.same(row_back(rule, rows[100], 100), rows[0])
            self.same(row_back(rule, rows[99], 100), None)
            self.same(row_back(rule, rows[99], 99), rows[0])


class AtTheLimits(Case):

    def test_30_cells_400_places_wide(self):
        chance = Random(31)
        for m in MODULI:
            for near in (FAR - 500, 200 - FAR):
                rule = some_rule(chance, m, -4, 4, 9)
                if not all(left_modulo(rule, prime) for prime in MODULI[m]):
                    continue
                places = [near, near + 400] + [near + k for k in chance.sample(range(1, 400), 28)]
                row = (m, tuple((place, chance.randrange(1, m)) for place in sorted(places)))
                told = ahead(rule, row)
                self.same(told is None, bar(rule, row) is not None)
                if told is None:
                    self.same(bars(rule, row, bar(rule, row)), True)
                    self.same(steps_back(rule, row), 0)
                first = some_row(chance, m, 30, near + 200, 190)
                self.same(ahead(rule, row_behind(rule, first)), first)

    def test_places_of_sixty_digits(self):
        chance = Random(32)
        for m in MODULI:
            rule = (m, tuple((d, 1 + (d * d) % (m - 1)) for d in range(-4, 5)))
            row = (m, tuple((place, 1 + place % (m - 1)) for place in sorted(
                {chance.randint(-FAR, FAR) for _ in range(30)})))
            told = bar(rule, row)
            if told is not None:
                self.same(bars(rule, row, told), True)
                prime, values = told
                nought = (prime, (0,) * len(values))
                self.same(bars(rule, row, nought), False)
            apart = row_behind(rule, row)
            self.same(bar(rule, apart), None)
            for prime in MODULI[m]:
                self.same(bars(rule, apart, (prime, (1,) * width(rule, prime))), False)
