"""Promise 33: rows between two walls, and what even rules lose there, for all n."""

from itertools import product
from random import Random

from nearadds.errors import InvalidNumber, InvalidProgram, InvalidRound, InvalidRule, InvalidWalls, Unlike
from nearadds.rules import behind, plus, power
from nearadds.walls import unfolded, walled_after, walled_losing, walled_noughts, walled_step, walled_tail
from tests.cases import Case
from tests.worked import FAR, MODULI, PRIMES, by_remainders, cell_behind, common_of, cut, least_of_multiples
from tests.worked import left_modulo, nought_rank, product_of, rest_by, round_behind, some_round, table_of, table_power
from tests.worked import tail_and_rank, times

WALLS = ("nought", "mirror")
MOST = 10 ** 30
TOLD = ["rule", "kind", "n"]


def some_even(chance, m, most=4):
    """An even rule; now and then one of few terms, one that is nought modulo a prime, or one without terms."""
    kind, factors = chance.randrange(8), {}
    for d in range(most + 1):
        factors[d] = chance.choice([0, chance.randrange(m)])
    if kind == 0 and len(MODULI[m]) > 1:
        prime = chance.choice(MODULI[m])
        factors = {d: c * prime % m for d, c in factors.items()}
    if kind == 1:
        factors = {0: 0, chance.randint(0, most): chance.randrange(m)}
    return even_of(m, factors)


def even_of(m, factors):
    """The even rule with these factors at the offsets from 0 on."""
    both = {**factors, **{-d: c for d, c in factors.items()}}
    return m, tuple((d, both[d] % m) for d in sorted(both) if both[d] % m)


def walled_value(m, values, kind, i):
    """The value at any place of the row as which a row between walls is meant."""
    n = len(values)
    if kind == "mirror":
        at = i % (2 * n)
        return values[at] if at < n else values[2 * n - 1 - at]
    at = i % (2 * n + 2)
    if at in (n, 2 * n + 1):
        return 0
    return values[at] if at < n else -values[2 * n - at] % m


def walled_behind(rule, values, kind):
    m = rule[0]
    return tuple(cell_behind(rule, lambda i: walled_value(m, values, kind, i), k) for k in range(len(values)))


def walled_table(rule, kind, n, prime):
    part = (prime, left_modulo(rule, prime))
    return table_of(lambda values: walled_behind(part, values, kind), n, prime)


class Steps(Case):

    def test_unfolded(self):
        chance = Random(1)
        self.answers((3, (1, 2, 0, 1, 2, 0)), unfolded, ["row", "kind"], [(3, (1, 2)), "nought"])
        self.answers((3, (1, 2, 2, 1)), unfolded, ["row", "kind"], [(3, (1, 2)), "mirror"])
        for m in MODULI:
            for n in (1, 2, 3, 7, 60):
                row = some_round(chance, m, n)
                for kind, many in (("nought", 2 * n + 2), ("mirror", 2 * n)):
                    expected = (m, tuple(walled_value(m, row[1], kind, i) for i in range(many)))
                    self.answers(expected, unfolded, ["row", "kind"], [row, kind])
            self.same(unfolded((m, (0,)), "nought"), (m, (0, 0, 0, 0)))
            self.same(unfolded((m, (m - 1,)), "nought"), (m, (m - 1, 0, 1, 0)))
            self.same(unfolded((m, (m - 1,)), "mirror"), (m, (m - 1, m - 1)))

    def test_steps(self):
        chance = Random(2)
        for m in MODULI:
            for n in (1, 2, 3, 4, 5, 8, 13, 60):
                rule, row = some_even(chance, m), some_round(chance, m, n)
                for kind in WALLS:
                    expected = (m, walled_behind(rule, row[1], kind))
                    self.answers(expected, walled_step, ["rule", "row", "kind"], [rule, row, kind])
                    # The row that is meant steps as a round row does, and is one between walls again.
                    self.same(round_behind(rule, unfolded(row, kind)), unfolded(expected, kind))

    def test_what_rules_returned_with_offsets_to_40(self):
        chance = Random(3)
        for m in MODULI:
            rule = even_of(m, {0: m - 1, 1: 1, 2: 1})
            for wide in (power(rule, 20), behind(rule, rule), plus(rule, even_of(m, {40: 1, 7: m - 1})), (m, ())):
                for n in (1, 5, 12):
                    row = some_round(chance, m, n)
                    for kind in WALLS:
                        expected = (m, walled_behind(wide, row[1], kind))
                        self.same(walled_after((m, ((wide[1], 1),)), row, kind), expected)

    def test_programs_walked(self):
        chance = Random(4)
        for m in MODULI:
            for _ in range(6):
                steps = tuple((some_even(chance, m)[1], chance.randint(0, 4)) for _ in range(chance.randint(0, 6)))
                row = some_round(chance, m, chance.randint(1, 9))
                for kind in WALLS:
                    values = row[1]
                    for terms, often in steps:
                        for _ in range(often):
                            values = walled_behind((m, terms), values, kind)
                    self.answers((m, values), walled_after, ["program", "row", "kind"], [(m, steps), row, kind])

    def test_programs_of_many_times(self):
        chance = Random(5)
        for m in MODULI:
            for often in (MOST, MOST - 1, 7 ** 35, 2 ** 99 - 1):
                rule, row = some_even(chance, m), some_round(chance, m, 6)
                for kind in WALLS:
                    parts = []
                    for prime in MODULI[m]:
                        table = table_power(walled_table(rule, kind, 6, prime), often, prime)
                        parts.append([sum(v * table[k][j] for k, v in enumerate(row[1])) % prime for j in range(6)])
                    expected = (m, tuple(by_remainders(m, rests) for rests in zip(*parts)))
                    program = (m, ((rule[1], often),))
                    self.answers(expected, walled_after, ["program", "row", "kind"], [program, row, kind])

    def test_the_very_limits(self):
        chance = Random(6)
        for m in MODULI:
            rules = [even_of(m, {0: c, 1: 1, 2: m - 1, 3: 1, 4: c or 1}) for c in range(2)]
            program = (m, tuple((rules[k % 2][1], MOST - k) for k in range(6)))
            row = some_round(chance, m, 60)
            for kind in WALLS:
                told = walled_after(program, row, kind)
                self.same(len(told[1]), 60)
                # Done in two halves it leaves the same.
                half = walled_after((m, program[1][3:]), row, kind)
                self.same(walled_after((m, program[1][:3]), half, kind), told)

    def test_nothing_done(self):
        for m in MODULI:
            row = (m, (1, 0, m - 1))
            for kind in WALLS:
                self.same(walled_after((m, ()), row, kind), row)
                self.same(walled_after((m, (((), 0),)), row, kind), row)
                self.same(walled_after((m, (((), 1),)), row, kind), (m, (0, 0, 0)))
                self.same(walled_step((m, ()), row, kind), (m, (0, 0, 0)))
                self.same(walled_step((m, ((0, 1),)), row, kind), row)


def dims_of(rule, kind, n):
    return [(prime, nought_rank(walled_table(rule, kind, n, prime), prime)) for prime in MODULI[rule[0]]]


class ByRanks(Case):
    """The ranks of the table of a walled step, of as many steps as the rank still falls."""

    def judged(self, rule, kind, n):
        found = [walled_table(rule, kind, n, prime) for prime in MODULI[rule[0]]]
        dims = [(prime, nought_rank(table, prime)) for prime, table in zip(MODULI[rule[0]], found)]
        tail = max(tail_and_rank(table, prime)[0] for prime, table in zip(MODULI[rule[0]], found))
        self.answers(dims, walled_noughts, TOLD, [rule, kind, n])
        self.answers(tail, walled_tail, TOLD, [rule, kind, n])

    def test_all_n_to_a_bound(self):
        chance = Random(11)
        for m in MODULI:
            for kind in WALLS:
                for rule in (some_even(chance, m, 2), some_even(chance, m)):
                    for n in range(1, 15):
                        self.judged(rule, kind, n)

    def test_all_even_rules_of_small_width(self):
        for m, most in ((2, 4), (3, 2), (5, 1), (6, 1)):
            for factors in product(range(m), repeat=most + 1):
                rule = even_of(m, dict(enumerate(factors)))
                for kind in WALLS:
                    for n in (1, 2, 3, 5, 6, 8, 9):
                        self.judged(rule, kind, n)

    def test_powers_of_x_less_and_more_1(self):
        # (x - 1) ** 2 and (x + 1) ** 2 are those prime factors that count otherwise than their orders tell.
        for prime in PRIMES:
            for sign in (1, -1):
                one = even_of(prime, {0: -2 * sign % prime, 1: 1})
                rule = one
                for _ in range(4):
                    for n in [n for n in range(1, 28) if (n + 1) % prime == 0 or n % prime == 0 or n < 3]:
                        for kind in WALLS:
                            self.judged(rule, kind, n)
                    rule = product_of(rule, one)

    def test_no_terms_one_term_and_one_prime_alone(self):
        for m, primes in MODULI.items():
            for kind in WALLS:
                for n in (1, 2, 6):
                    self.judged((m, ()), kind, n)
                    self.judged((m, ((0, m - 1),)), kind, n)
                    for prime in primes:
                        self.judged(even_of(m, {0: m // prime, 1: m // prime}), kind, n)
                        self.judged(even_of(m, {1: m // prime}), kind, n)

    def test_losing(self):
        chance = Random(12)
        for m in MODULI:
            for rule in [some_even(chance, m) for _ in range(4)] + [even_of(m, {0: c, 1: 1}) for c in (0, 1, 2)]:
                for kind in WALLS:
                    told = walled_losing(rule, kind)
                    self.answers(told, walled_losing, ["rule", "kind"], [rule, kind])
                    more = 0 if kind == "mirror" else 1
                    found = [n + more for n in range(1, 17) if any(dim for _, dim in dims_of(rule, kind, n))]
                    for number in range(1 + more, 17 + more):
                        self.same(number in found, any(number % least == 0 for least in told))
                    self.same(told, least_of_multiples(told))
                    self.assertTrue(all(type(number) is int and number > 0 for number in told))

    def test_losing_none_and_all(self):
        for m, primes in MODULI.items():
            for kind in WALLS:
                self.same(walled_losing((m, ()), kind), [1])
                self.same(walled_losing((m, ((0, m - 1),)), kind), [])
                for prime in primes:
                    if prime < m:
                        self.same(walled_losing((m, ((0, prime),)), kind), [1])
            self.same(walled_losing(even_of(m, {0: m - 2, 1: 1}), "mirror"), [1])

    def test_new_at_each_call(self):
        rule = even_of(6, {0: 4, 1: 1})
        for call, passed in ((walled_losing, [rule, "nought"]), (walled_noughts, [rule, "mirror", 6])):
            first = call(*passed)
            expected = list(first)
            first.append(None)
            self.same(call(*passed), expected)


# The rows of n cells are polynomials in y = x + 1 / x, of which S(n) leaves the rest: S(n + 1) = y * S(n) - S(n - 1).


def in_y(rule, prime):
    """The even rule as a polynomial in y."""
    left, powers = dict(left_modulo(rule, prime)), [(2,), (0, 1)]
    while len(powers) <= max(left):
        longer, shorter = (0,) + powers[-1], powers[-2]
        powers.append(tuple(v - (shorter[k] if k < len(shorter) else 0) for k, v in enumerate(longer)))
    made = [0] * (max(left) + 1)
    made[0] = left.get(0, 0)
    for d in range(1, max(left) + 1):
        for k, value in enumerate(powers[d]):
            made[k] += left.get(d, 0) * value
    return cut([value % prime for value in made])


def great_s(n, whole, prime):
    """What a polynomial with the last coefficient 1 leaves of S(n), by squares of the table of one more."""
    def both(one, other):
        return [[sums(times(a[0], b, prime), times(a[1], c, prime)) for b, c in zip(*other)] for a in one]

    def sums(one, other):
        many = max(len(one), len(other))
        one, other = [list(part) + [0] * (many - len(part)) for part in (one, other)]
        return tuple(rest_by([a + b for a, b in zip(one, other)], whole, prime)) or (0,)

    made, square = [[(1,), (0,)], [(0,), (1,)]], [[(0, 1), (prime - 1,)], [(1,), (0,)]]
    while n:
        if n & 1:
            made = both(made, square)
        square = both(square, square)
        n >>= 1
    return made[0][0]


def lost_between(poly, kind, n, prime):
    """The dimension of the rows of n cells that a polynomial in y makes 0."""
    share = pow(poly[-1], -1, prime)
    poly = tuple(value * share % prime for value in poly)
    if len(poly) == 1:
        return 0
    rows = great_s(n, poly, prime) if kind == "nought" else times((-2, 1), great_s(n - 1, poly, prime), prime)
    return len(common_of(poly, [value % prime for value in rows], prime)) - 1


# Greater shares of a prime in n take the judge too long.
LESS = {2: 16, 3: 27, 5: 25, 7: 49, 11: 11, 13: 13}


class GreatNumbers(Case):

    def judged(self, rule, kind, n):
        dims, tails = [], [0]
        for prime in MODULI[rule[0]]:
            if not left_modulo(rule, prime):
                dims.append((prime, n))
                tails.append(1)
                continue
            poly = in_y(rule, prime)
            dims.append((prime, lost_between(poly, kind, n, prime)))
            made, lost = poly, [0, dims[-1][1]]
            while lost[-1] > lost[-2]:
                made = cut(times(made, poly, prime))
                lost.append(lost_between(made, kind, n, prime))
            tails.append(len(lost) - 2)
        self.same(walled_noughts(rule, kind, n), dims)
        self.same(walled_tail(rule, kind, n), max(tails))

    def test_the_judge(self):
        chance = Random(21)
        for prime in PRIMES:
            for kind in WALLS:
                for n in (1, 2, 3, 5, 8, 9):
                    rule = even_of(prime, {0: chance.randrange(prime), 1: chance.randrange(prime), 2: 1})
                    expected = [(prime, lost_between(in_y(rule, prime), kind, n, prime))]
                    self.same(dims_of(rule, kind, n), expected)

    def test_great_numbers(self):
        chance = Random(22)
        for m in MODULI:
            for kind in WALLS:
                rule, more = some_even(chance, m, 3), 0 if kind == "mirror" else 1
                for number in walled_losing(rule, kind) + [MODULI[m][0], 1]:
                    for much in (1, chance.randint(2, 1000), MOST // number):
                        for n in [number * much - more + by for by in (-1, 0, 1)]:
                            if n > 0 and all((n + more) % LESS[prime] for prime in MODULI[m]):
                                self.judged(rule, kind, n)
                for n in (MOST, MOST - 1, MOST - 2):
                    if all((n + more) % LESS[prime] for prime in MODULI[m]):
                        self.judged(rule, kind, n)

    def test_great_powers_of_a_prime(self):
        # Between walls there stand n or n + 1 as powers of the prime: S is a power of y - 2 and y + 2 then.
        for prime in PRIMES:
            share = 1
            while share * prime <= MOST:
                share *= prime
                half = share // 2
                for often in (1, 2, 3, 4):
                    less, more = (prime, ((0, 1),)), (prime, ((0, 1),))
                    for _ in range(often):
                        less = product_of(less, even_of(prime, {0: -2 % prime, 1: 1}))
                        more = product_of(more, even_of(prime, {0: 2 % prime, 1: 1}))
                    noughts = [(less, "mirror", share, half + share % 2 if prime > 2 else share),
                               (less, "nought", share - 1, half if prime > 2 else share - 1),
                               (more, "mirror", share, half if prime > 2 else share),
                               (more, "nought", share - 1, half if prime > 2 else share - 1)]
                    for rule, kind, n, many in noughts:
                        if n:
                            self.same(walled_noughts(rule, kind, n), [(prime, min(often, many))])
                            self.same(walled_tail(rule, kind, n), -(-many // often))
                # One cell more or less: between mirrors y - 2 alone is left of them, between nought walls nothing is.
                for n in (share - 1, share + 1):
                    if n % prime and n > 0:
                        self.same(walled_noughts(less, "mirror", n), [(prime, 1)])
                        self.same(walled_tail(less, "mirror", n), 1)
                    if (n + 1) % prime and n > 0:
                        self.same(walled_noughts(less, "nought", n), [(prime, 0)])
                        self.same(walled_tail(more, "nought", n), 0)

    def test_numbers_below_1(self):
        for m in MODULI:
            for n in (0, -1, -2, -12, -FAR):
                for kind in WALLS:
                    for call in (walled_noughts, walled_tail):
                        self.refused_both(InvalidNumber, n, call, TOLD, [(m, ((0, 1),)), kind, n])


KINDS_OF_NONE = [
    None, "", "Nought", "NOUGHT", "mirrors", "mirro", "nought ", " mirror", "0", "noughtmirror", b"nought", 0, 1, True,
    False, ["nought"], ("mirror",), ("nought", "mirror"), [["nought"], ([],)], {"nought": 1}, {"mirror"}]


class Refused(Case):

    def test_kinds(self):
        rule, row, program = (2, ((-1, 1), (1, 1))), (2, (1, 0)), (2, ((((0, 1),), 3),))
        for kind in KINDS_OF_NONE:
            self.refused_both(InvalidWalls, kind, unfolded, ["row", "kind"], [row, kind])
            self.refused_both(InvalidWalls, kind, walled_step, ["rule", "row", "kind"], [rule, row, kind])
            self.refused_both(InvalidWalls, kind, walled_after, ["program", "row", "kind"], [program, row, kind])
            self.refused_both(InvalidWalls, kind, walled_losing, ["rule", "kind"], [rule, kind])
            for n in (1, 0):
                self.refused_both(InvalidWalls, kind, walled_noughts, TOLD, [rule, kind, n])
                self.refused_both(InvalidWalls, kind, walled_tail, TOLD, [rule, kind, n])
            self.refused(InvalidRound, (2, ()), unfolded, (2, ()), kind)
            self.refused(Unlike, 3, walled_step, rule, (3, (1,)), kind)
            self.refused(Unlike, 3, walled_after, program, (3, (1,)), kind)

    def test_rules_that_are_not_even(self):
        for m in MODULI:
            row, good = (m, (1, 0)), ((-1, 1), (1, 1))
            uneven = [((1, 1),), ((0, 1), (1, 1)), ((-1, 1), (0, 1)), ((-2, 1), (1, 1)), ((-2, 1), (-1, 1), (1, 1)),
                      ((-4, 1), (3, 1), (4, 1)), ((-1, 1), (2, 1))]
            if m > 2:
                uneven += [((-1, 1), (1, m - 1)), ((-3, 1), (-1, 1), (1, 2), (3, 1))]
            for terms in uneven:
                rule = (m, terms)
                for passed in (row, (m, ()), (3 if m == 2 else 2, (1,)), None):
                    self.refused_both(InvalidRule, rule, walled_step, ["rule", "row", "kind"], [rule, passed, "mirror"])
                for kind in ("nought", "", None):
                    self.refused_both(InvalidRule, rule, walled_losing, ["rule", "kind"], [rule, kind])
                    for n in (0, 5):
                        self.refused_both(InvalidRule, rule, walled_noughts, TOLD, [rule, kind, n])
                        self.refused_both(InvalidRule, rule, walled_tail, TOLD, [rule, kind, n])
                for steps in (((terms, 1),), ((terms, 0),), ((good, 5), (terms, 0)), ((terms, MOST), ((), 1)),
                              (((), 0), (terms, 2), (good, 0))):
                    program = (m, steps)
                    for passed in (row, (m, ()), None):
                        self.refused_both(InvalidProgram, program, walled_after, ["program", "row", "kind"],
                                          [program, passed, "nought"])

    def test_two_uneven_rules_that_together_are_even(self):
        for m in MODULI:
            program = (m, ((((1, 1),), 1), (((-1, 1),), 1)))
            self.refused(InvalidProgram, program, walled_after, program, (m, (1, 0)), "mirror")

    def test_a_rule_that_is_even_modulo_one_prime_alone(self):
        # 1 and 3 are the same modulo 2 only.
        for m, other in ((6, 3), (10, 3), (14, 3), (15, 4)):
            rule = (m, ((-1, 1), (1, other)))
            self.refused(InvalidRule, rule, walled_losing, rule, "nought")
            self.refused(InvalidRule, rule, walled_step, rule, (m, (1,)), "nought")

    def test_unlike(self):
        for one, other in product(MODULI, repeat=2):
            if one != other:
                rule, row = even_of(one, {1: 1}), (other, (1, 0))
                self.refused_both(Unlike, other, walled_step, ["rule", "row", "kind"], [rule, row, "nought"])
                self.refused_both(Unlike, other, walled_after, ["program", "row", "kind"], [(one, ()), row, "mirror"])
