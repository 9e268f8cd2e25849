"""Promise 17: fitting, how_many, further_rules, further_hold, refusal, refuses, sure_value and the rest."""

from itertools import combinations, product
from random import Random

from nearadds.errors import InvalidCells, InvalidLooks, InvalidModulus, InvalidNumber, NoRule
from nearadds.rules import is_rule
from nearadds.toldback import fitting, further_hold, further_rules, how_many, more_looks, next_cells, refusal, refuses
from nearadds.toldback import sure_value, which_wrong, wrong_looks
from tests.cases import Case
from tests.worked import FAR, MODULI, PRIMES, Odd, by_remainders, odd_objects, some_rule, spoiled, sum_of, told_integer
from tests.worked import told_rule, told_tuple

NAMES = ["modulus", "reach", "looks"]
COMPOSITE = [m for m in MODULI if len(MODULI[m]) == 2]
# Moduli and reaches of which all rules are tried.
TRIED = [(2, 0), (2, 1), (2, 2), (2, 3), (3, 0), (3, 1), (3, 2), (5, 0), (5, 1), (6, 0), (6, 1), (7, 0), (7, 1),
         (10, 0), (10, 1), (11, 0), (13, 0), (14, 0), (15, 0), (14, 1), (15, 1)]
CALLS = {fitting: [], how_many: [], further_rules: [], refusal: [], more_looks: [], next_cells: [], wrong_looks: [],
         which_wrong: []}


def all_rules(modulus, reach):
    """All rules, as lists of factors from the least offset on."""
    return list(product(range(modulus), repeat=2 * reach + 1))


def value_of(factors, cells, modulus):
    return sum(factor * cell for factor, cell in zip(factors, cells)) % modulus


def that_fit(modulus, reach, looks):
    return [f for f in all_rules(modulus, reach) if all(value_of(f, c, modulus) == v for c, v in looks)]


def rule_of(factors, modulus):
    reach = len(factors) // 2
    return modulus, tuple((k - reach, factor) for k, factor in enumerate(factors) if factor)


def factors_of(rule, reach):
    """The factors from the least offset on; None of a rule with others."""
    terms = dict(rule[1])
    if any(abs(d) > reach for d in terms):
        return None
    return tuple(terms.get(k, 0) for k in range(-reach, reach + 1))


def some_cells(chance, modulus, reach):
    return tuple(chance.choice([0, chance.randrange(modulus)]) for _ in range(2 * reach + 1))


def some_looks(chance, modulus, reach, many):
    """Looks most of which a rule tells."""
    rule = tuple(chance.randrange(modulus) for _ in range(2 * reach + 1))
    looks = []
    for _ in range(many):
        cells = some_cells(chance, modulus, reach)
        value = value_of(rule, cells, modulus)
        looks.append((cells, value if chance.randrange(8) else chance.randrange(modulus)))
    return tuple(looks)


def tells_all(modulus, reach, fits, value):
    """Whether any object is a list of further rules, by all sums that it tells; only of short lists."""
    if type(value) is not list or not fits:
        return False
    for part in value:
        if not (told_tuple(part, 2) and told_integer(part[0], 2) and told_rule(part[1]) and part[1][0] == modulus):
            return False
    numbers = [part[0] for part in value]
    if any(low % high for low, high in zip(numbers, numbers[1:])):
        return False
    count = 1
    for number in numbers:
        count *= number
    if count != len(fits):
        return False
    added = [factors_of(rule, reach) for _, rule in value]
    if None in added:
        return False
    found = set()
    for often in product(*[range(number) for number in numbers]):
        made = list(fits[0])
        for much, factors in zip(often, added):
            made = [(one + much * other) % modulus for one, other in zip(made, factors)]
        found.add(tuple(made))
    return found == set(fits)


class TriedByAllRules(Case):

    def told(self, seed, many=12):
        chance = Random(seed)
        for m, reach in TRIED:
            for _ in range(many if m ** (2 * reach + 1) < 700 else 5):
                looks = some_looks(chance, m, reach, chance.choice([0, 1, 1, 2, 2, 3, 4, 6]))
                yield chance, [m, reach, looks], that_fit(m, reach, looks)

    def test_fitting_and_how_many(self):
        seen = set()
        for _, passed, fits in self.told(1):
            seen.add(len(fits) if len(fits) < 2 else 2)
            self.answers(len(fits), how_many, NAMES, passed)
            told = fitting(*passed)
            self.answers(told, fitting, NAMES, passed)
            if fits:
                self.same(is_rule(told), True)
                self.same(told[0], passed[0])
                self.assertIn(factors_of(told, passed[1]), fits)
            else:
                self.same(told, None)
        self.assertEqual(seen, {0, 1, 2})

    def test_further_rules(self):
        for chance, passed, fits in self.told(2):
            told = further_rules(*passed)
            self.answers(told, further_rules, NAMES, passed)
            if not fits:
                self.same(told, None)
                for value in (None, [], (), [(2, (passed[0], ((0, 1),)))]):
                    self.same(further_hold(*passed, value), False)
                continue
            self.same(tells_all(*passed[:2], fits, told), True)
            self.answers(True, further_hold, NAMES + ["value"], passed + [told])
            self.same(further_hold(*passed, []), len(fits) == 1)
            if len(fits) == 1:
                self.same(told, [])

    def test_lists_of_further_rules(self):
        """Lists made by chance of the differences of fitting rules, and of other rules, judged by all their sums."""
        seen = {m: set() for m in MODULI}
        for chance, passed, fits in self.told(3, 16):
            m, reach = passed[:2]
            told = further_rules(*passed)
            for _ in range(8 if told else 0):
                value = []
                for number, _ in told:
                    one, other = chance.choice(fits), chance.choice(fits)
                    factors = tuple((a - b) % m for a, b in zip(one, other))
                    if chance.randrange(16) == 0:
                        factors = tuple(chance.randrange(m) for _ in factors)
                    value.append((number, rule_of(factors, m)))
                expected = tells_all(m, reach, fits, value)
                seen[m].add(expected)
                self.same(further_hold(*passed, value), expected)
        for m in MODULI:
            self.assertEqual(seen[m], {True, False})

    def test_numbers_of_further_rules(self):
        for chance, passed, fits in self.told(4, 8):
            told = further_rules(*passed)
            if told:
                m = passed[0]
                rules = [rule for _, rule in told]
                numbers = [number for number, _ in told]
                tried = [numbers[::-1], numbers[1:], numbers + [2], numbers[:-1] + [numbers[-1] + 1], [2] + numbers,
                         [m] * len(numbers), [MODULI[m][0]] * len(numbers), [MODULI[m][-1]] * len(numbers),
                         [1] * len(numbers), numbers[:-1] + [numbers[-1] * 2], [-n for n in numbers], numbers + [1],
                         [numbers[0] * numbers[-1]] + numbers[1:-1], numbers[:-1] + [True],
                         MODULI[m] + numbers[1:], MODULI[m][::-1] + numbers[1:]]
                for other in tried:
                    value = list(zip(other, rules + rules))
                    self.same(further_hold(*passed, value), tells_all(*passed[:2], fits, value))
                value = [(number, rule) for number, rule in zip(numbers, rules[::-1])]
                self.same(further_hold(*passed, value), tells_all(*passed[:2], fits, value))
                value = [(number, rules[0]) for number in numbers]
                self.same(further_hold(*passed, value), tells_all(*passed[:2], fits, value))

    def test_refusal(self):
        for chance, passed, fits in self.told(5, 20):
            told = refusal(*passed)
            self.answers(told, refusal, NAMES, passed)
            self.same(told is None, bool(fits))
            if told is not None:
                self.same(contradicts(passed, told), True)
                self.answers(True, refuses, NAMES + ["value"], passed + [told])

    def test_all_refusals(self):
        for chance, passed, fits in self.told(6, 6):
            for prime in MODULI[passed[0]]:
                if prime ** len(passed[2]) < 900:
                    for multiples in product(range(prime), repeat=len(passed[2])):
                        value = (prime, multiples)
                        self.same(refuses(*passed, value), contradicts(passed, value))

    def test_sure_value(self):
        seen = set()
        for chance, passed, fits in self.told(7, 20):
            m, reach, looks = passed
            for _ in range(5):
                cells = some_cells(chance, m, reach)
                if looks and chance.randrange(2):
                    (one, _), (other, _) = chance.choice(looks), chance.choice(looks)
                    cells = tuple((a + 2 * b) % m for a, b in zip(one, other))
                values = {value_of(factors, cells, m) for factors in fits}
                if not values:
                    self.refused_both(NoRule, looks, sure_value, NAMES + ["cells"], passed + [cells])
                else:
                    expected = values.pop() if len(values) == 1 else None
                    seen.add(expected is None)
                    self.answers(expected, sure_value, NAMES + ["cells"], passed + [cells])
        self.assertEqual(seen, {True, False})

    def test_more_looks_and_next_cells(self):
        for chance, passed, fits in self.told(8):
            m, reach, looks = passed
            if not fits:
                self.refused_both(NoRule, looks, more_looks, NAMES, passed)
                self.refused_both(NoRule, looks, next_cells, NAMES, passed)
                continue
            told = next_cells(*passed)
            self.answers(told, next_cells, NAMES, passed)
            self.answers(len(told), more_looks, NAMES, passed)
            for cells in told:
                self.assertTrue(told_tuple(cells, 2 * reach + 1))
                self.assertTrue(all(told_integer(value, 0, m - 1) for value in cells))
            # Each fitting rule tells other values: so they tell which rule it is.
            self.assertEqual(len({tuple(value_of(f, cells, m) for cells in told) for f in fits}), len(fits))
            # So many looks tell at most so many rules apart: modulo the prime with the most rules no fewer are enough.
            for prime in MODULI[m]:
                rests = {tuple(factor % prime for factor in factors) for factors in fits}
                if prime ** (len(told) - 1) < len(rests):
                    break
            else:
                self.same(told, [])

    def test_wrong_looks(self):
        chance = Random(9)
        for m, reach in TRIED:
            if m ** (2 * reach + 1) > 250:
                continue
            for _ in range(8):
                looks = tuple((some_cells(chance, m, reach), chance.randrange(m)) for _ in range(chance.randint(0, 7)))
                if chance.randrange(2):
                    looks = some_looks(chance, m, reach, len(looks))
                expected = first_left_out(m, reach, looks)
                self.answers(expected, which_wrong, NAMES, [m, reach, looks])
                self.answers(len(expected), wrong_looks, NAMES, [m, reach, looks])


def first_left_out(modulus, reach, looks):
    """The first of all shortest lists of indexes without which some one rule fits."""
    told = [[k for k, (c, v) in enumerate(looks) if value_of(f, c, modulus) != v] for f in all_rules(modulus, reach)]
    least = min(len(wrong) for wrong in told)
    found = []
    for kept_out in combinations(range(len(looks)), least):
        if any(set(wrong) <= set(kept_out) for wrong in told):
            found.append(list(kept_out))
    return min(found)


def contradicts(passed, value):
    """Whether any object is a refusal, by adding up."""
    modulus, reach, looks = passed
    if not (told_tuple(value, 2) and told_integer(value[0]) and value[0] in MODULI[modulus]):
        return False
    prime, multiples = value
    if not (told_tuple(multiples, len(looks)) and all(told_integer(much, 0, prime - 1) for much in multiples)):
        return False
    for k in range(2 * reach + 1):
        if sum(much * look[0][k] for much, look in zip(multiples, looks)) % prime:
            return False
    return sum(much * look[1] for much, look in zip(multiples, looks)) % prime != 0


class Edges(Case):

    def test_no_looks(self):
        for m, primes in MODULI.items():
            for reach in range(4):
                many = 2 * reach + 1
                self.same(how_many(m, reach, ()), m ** many)
                self.same([refusal(m, reach, ()), more_looks(m, reach, ()), wrong_looks(m, reach, ()),
                           which_wrong(m, reach, ())], [None, many, 0, []])
                self.same(is_rule(fitting(m, reach, ())), True)
                self.same([number for number, _ in further_rules(m, reach, ())], [m] * many)
                self.same(further_hold(m, reach, (), [(m, (m, ((k - reach, 1),))) for k in range(many)]), True)
                other = [(m, (m, ((reach - k, m - 1),))) for k in range(many)]
                self.same(further_hold(m, reach, (), other), True)
                self.same(sure_value(m, reach, (), (0,) * many), 0)
                self.same(sure_value(m, reach, (), (0,) * (many - 1) + (1,)), None)
                for prime in primes:
                    self.same(refuses(m, reach, (), (prime, ())), False)

    def test_one_rule_is_left(self):
        chance = Random(11)
        for m, primes in MODULI.items():
            for reach in range(4):
                rule = some_rule(chance, m, -reach, reach)
                units = [tuple(int(j == k) for j in range(2 * reach + 1)) for k in range(2 * reach + 1)]
                looks = tuple((cells, dict(rule[1]).get(k - reach, 0)) for k, cells in enumerate(units))
                self.same(fitting(m, reach, looks), rule)
                self.same([how_many(m, reach, looks), further_rules(m, reach, looks), more_looks(m, reach, looks),
                           next_cells(m, reach, looks), refusal(m, reach, looks)], [1, [], 0, [], None])
                self.same([further_hold(m, reach, looks, value) for value in ([], (), None, [()], [(1, (m, ()))])],
                          [True, False, False, False, False])
                for cells in (units[0], (1,) * len(units), (m - 1,) * len(units)):
                    expected = value_of(factors_of(rule, reach), cells, m)
                    self.same(sure_value(m, reach, looks, cells), expected)

    def test_looks_that_contradict_modulo_one_of_two_primes_alone(self):
        for m in COMPOSITE:
            for k, prime in enumerate(MODULI[m]):
                other = m // prime
                looks = (((1, 0, 0), 0), ((1, 0, 0), other), ((0, 1, 0), 1))
                told = refusal(m, 1, looks)
                self.same(told[0], prime)
                self.same(refuses(m, 1, looks, told), True)
                self.same([fitting(m, 1, looks), how_many(m, 1, looks), further_rules(m, 1, looks)], [None, 0, None])
                self.same([wrong_looks(m, 1, looks), which_wrong(m, 1, looks)], [1, [0]])
                self.same(refuses(m, 1, looks, (prime, (1, prime - 1, 0))), True)
                self.same(refuses(m, 1, looks, (other, (1, other - 1, 0))), False)
                self.same(refuses(m, 1, looks, (prime, (1, prime - 1, 1))), False)
                self.refused(NoRule, looks, sure_value, m, 1, looks, (1, 1, 1))
                self.refused(NoRule, looks, more_looks, m, 1, looks)
                self.refused(NoRule, looks, next_cells, m, 1, looks)
                # Cells that are nought modulo the one prime tell nothing there.
                looks = (((prime, 0, 0), other), ((0, 0, 0), 0))
                self.same(refusal(m, 1, looks)[0], prime)

    def test_unlike_numbers_of_free_offsets(self):
        for m in COMPOSITE:
            low, high = MODULI[m]
            for one, other in ((low, high), (high, low)):
                # Modulo the one prime nothing is told, modulo the other one one factor is.
                looks = (((one, 0, 0), one),)
                self.same(how_many(m, 1, looks), one ** 3 * other ** 2)
                told = further_rules(m, 1, looks)
                self.same([number for number, _ in told], [m, m, one])
                self.same(further_hold(m, 1, looks, told), True)
                # The last rule may move what the other prime tells, too: its number is not that of its own times.
                moved = told[:2] + [(one, sum_of(told[2][1], told[0][1]))]
                self.same(further_hold(m, 1, looks, moved), True)
                fits = that_fit(m, 1, looks) if m < 11 else None
                if fits:
                    self.same(tells_all(m, 1, fits, moved), True)
                self.same(further_hold(m, 1, looks, told[::-1]), False)
                self.same(further_hold(m, 1, looks, told[:2] + [(other, told[2][1])]), False)
                self.same(further_hold(m, 1, looks, told[:2] + [(m, told[2][1])]), False)
                self.same(further_hold(m, 1, looks, [told[0], told[0], told[2]]), False)
                self.same(further_hold(m, 1, looks, told[:2] + [(one, (m, ()))]), False)
                self.same(more_looks(m, 1, looks), 3)

    def test_rules_beyond_the_reach_hold_no_list(self):
        for m in MODULI:
            told = [(m, (m, ((0, 1),)))]
            self.same(further_hold(m, 0, (), told), True)
            for offset in (-1, 1, 4, FAR):
                self.same(further_hold(m, 0, (), [(m, (m, ((offset, 1),)))]), False)
                self.same(further_hold(m, 0, (), [(m, (m, tuple(sorted(((0, 1), (offset, 1))))))]), False)

    def test_twelve_looks(self):
        chance = Random(12)
        for m in MODULI:
            rule = tuple(chance.randrange(m) for _ in range(7))
            cells = [tuple(chance.randrange(m) for _ in range(7)) for _ in range(12)]
            looks = tuple((part, value_of(rule, part, m)) for part in cells)
            self.same(refusal(m, 3, looks), None)
            self.same([wrong_looks(m, 3, looks), which_wrong(m, 3, looks)], [0, []])
            fits = factors_of(fitting(m, 3, looks), 3)
            self.same([value_of(fits, part, m) for part in cells], [value for _, value in looks])
            self.same(sure_value(m, 3, looks[:11], cells[0]), looks[0][1])
            wrong = tuple((part, (value + (k in (3, 8))) % m) for k, (part, value) in enumerate(looks))
            told = which_wrong(m, 3, wrong)
            self.same(len(told), wrong_looks(m, 3, wrong))
            self.assertLessEqual(len(told), 2)
            kept = tuple(look for k, look in enumerate(wrong) if k not in told)
            self.same(refusal(m, 3, kept), None)
            if refusal(m, 3, wrong) is not None:
                self.same(refuses(m, 3, wrong, refusal(m, 3, wrong)), True)

    def test_many_wrong_looks(self):
        chance = Random(13)
        for m in MODULI:
            for reach, least in ((0, 12), (3, 12)):
                looks = tuple((tuple(chance.randrange(m) for _ in range(2 * reach + 1)), chance.randrange(m))
                              for _ in range(least))
                told = which_wrong(m, reach, looks)
                kept = tuple(look for k, look in enumerate(looks) if k not in told)
                self.same(refusal(m, reach, kept), None)
                self.same(wrong_looks(m, reach, looks), len(told))
                # No list that is ahead of it, as short or shorter, is enough.
                for number in range(len(told) + 1):
                    for left_out in combinations(range(len(looks)), number):
                        if number < len(told) or list(left_out) < told:
                            if chance.randrange(60) == 0:
                                rest = tuple(look for k, look in enumerate(looks) if k not in left_out)
                                self.same(refuses(m, reach, rest, refusal(m, reach, rest)), True)

    def test_all_looks_are_wrong_but_those_of_one_value(self):
        for m in MODULI:
            looks = (((0,), 1), ((0,), m - 1), ((1,), 0), ((1,), 1), ((0,), 1), ((1,), 1))
            self.same(which_wrong(m, 0, looks), [0, 1, 2, 4])
            self.same(which_wrong(m, 0, looks[:2]), [0, 1])
            self.same(which_wrong(m, 0, looks[2:4]), [0])

    def test_each_answer_is_a_new_list(self):
        looks = (((1, 0, 0), 1), ((1, 0, 0), 2))
        for call, passed in ((further_rules, [6, 1, ()]), (next_cells, [6, 1, ()]), (which_wrong, [6, 1, looks])):
            first = call(*passed)
            expected = list(first)
            first.clear()
            self.same(call(*passed), expected)


class AnyObjects(Case):

    def test_further_hold(self):
        looks = (((1, 0, 0), 1),)
        for m in (2, 3, 6, 7, 10, 15):
            good = further_rules(m, 1, looks)
            fits = that_fit(m, 1, looks)
            for odd in odd_objects():
                self.same(further_hold(m, 1, looks, odd), False)
            for odd in spoiled(good):
                self.same(further_hold(m, 1, looks, odd), tells_all(m, 1, fits, odd))
            for odd in (tuple(good), good + [None], good[1:], good + good[:1], [list(part) for part in good],
                        [(number, list(rule)) for number, rule in good], [good], None, len(good),
                        [(str(number), rule) for number, rule in good], [(Odd(), Odd())], [Odd()],
                        [(number, (m, ((0, Odd()),))) for number, _ in good]):
                self.same(further_hold(m, 1, looks, odd), False)

    def test_further_rules_of_another_modulus(self):
        self.same(further_hold(6, 0, (), [(6, (6, ((0, 1),)))]), True)
        self.same(further_hold(6, 0, (), [(6, (7, ((0, 1),)))]), False)
        self.same(further_hold(7, 0, (), [(7, (7, ((0, 6),)))]), True)
        self.same(further_hold(7, 0, (), [(7, (14, ((0, 6),)))]), False)

    def test_refuses(self):
        looks = (((1, 0, 0), 1), ((0, 0, 1), 1), ((1, 0, 1), 1))
        for m in MODULI:
            good = refusal(m, 1, looks)
            for odd in odd_objects():
                self.same(refuses(m, 1, looks, odd), False)
            for odd in spoiled(good):
                expected = contradicts([m, 1, looks], odd)
                self.answers(expected, refuses, NAMES + ["value"], [m, 1, looks, odd])
            prime, multiples = good
            for odd in ((prime, list(multiples)), list(good), (prime, multiples + (0,)), (prime, multiples[:-1]),
                        (prime, (0, 0, 0)), (m + 1, multiples), (prime, multiples, ()), (multiples, prime)):
                self.same(refuses(m, 1, looks, odd), False)


class Refused(Case):

    def calls(self):
        for call in CALLS:
            yield call, NAMES, []
        yield further_hold, NAMES + ["value"], [[]]
        yield refuses, NAMES + ["value"], [None]
        yield sure_value, NAMES + ["cells"], [(0, 0, 0)]

    def test_which_fault_is_told(self):
        for call, names, further in self.calls():
            for m in (0, 1, -2, 4, 9, 30, FAR):
                for reach, looks in ((1, ()), (4, None), (-1, [])):
                    self.refused_both(InvalidModulus, m, call, names, [m, reach, looks] + further)
            for reach in (-1, 4, FAR, -FAR):
                for looks in ((), None, [[]], (((1, 0, 0), 1),)):
                    self.refused_both(InvalidNumber, reach, call, names, [6, reach, looks] + further)

    def test_looks(self):
        for m in (2, 6, 13):
            good = (((1, 0, 1), 1), ((0, 0, m - 1), 0))
            for call, names, further in self.calls():
                for odd in odd_objects():
                    if type(odd) is not tuple or len(odd):
                        self.refused(InvalidLooks, odd, call, m, 1, odd, *further)
                for odd in (list(good), good[0], (good,), good + (None,), good + ((),), ([(1, 0, 1), 1],),
                            (([1, 0, 1], 1),), (((1, 0), 1),), (((1, 0, 1, 0), 1),), (((1, 0, 1), m),),
                            (((1, 0, 1), -1),), (((1, 0, m), 1),), (((1, -1, 0), 1),), (((1, True, 0), 1),),
                            (((1, 0, 1), True),), (((1, 0, 1),),), (((1, 0, 1), 1, 1),), ((1, (1, 0, 1)),),
                            (((1, 0, 1), (1,)),), (((1, [0], 1), [[1]]),), (("101", 1),), {}, [[], ([],)]):
                    self.refused_both(InvalidLooks, odd, call, names, [m, 1, odd] + further)

    def test_looks_spoiled_in_one_thing(self):
        for m in (2, 6, 7):
            for odd in spoiled((((1, 0, 1), 1), ((0, 0, m - 1), 0))):
                fits = told_tuple(odd) and all(
                    told_tuple(look, 2) and told_tuple(look[0], 3) and told_integer(look[1], 0, m - 1)
                    and all(told_integer(value, 0, m - 1) for value in look[0]) for look in odd)
                if fits:
                    self.same(how_many(m, 1, odd), len(that_fit(m, 1, odd)))
                else:
                    for call, names, further in self.calls():
                        self.refused(InvalidLooks, odd, call, m, 1, odd, *further)

    def test_cells(self):
        looks = (((1, 0, 0), 1),)
        against = looks + (((1, 0, 0), 0),)
        for m in MODULI:
            for odd in odd_objects() + [(1, 0), (1, 0, 0, 0), [1, 0, 0], (1, 0, m), (1, 0, -1), (True, 0, 0),
                                        (1, 0, None), (1, 0, "0"), ((1, 0, 0),), (1, [0], [[0]]), ((1, 0, 0), 1)]:
                for told in (looks, against, ()):
                    self.refused_both(InvalidCells, odd, sure_value, NAMES + ["cells"], [m, 1, told, odd])
            self.refused_both(NoRule, against, sure_value, NAMES + ["cells"], [m, 1, against, (0, 0, 0)])
            self.refused(InvalidLooks, [], sure_value, m, 1, [], None)

    def test_looks_of_another_reach(self):
        looks = (((1, 0, 0), 1),)
        for reach in (0, 2, 3):
            self.refused(InvalidLooks, looks, how_many, 6, reach, looks)
        self.same([how_many(p, 1, looks) for p in PRIMES], [p * p for p in PRIMES])


class Together(Case):

    def test_what_is_told_by_the_modulus_is_told_by_its_primes(self):
        chance = Random(21)
        for m in COMPOSITE:
            for _ in range(20):
                reach = chance.randint(0, 3)
                looks = some_looks(chance, m, reach, chance.randint(0, 9))
                parts = [tuple((tuple(c % p for c in cells), v % p) for cells, v in looks) for p in MODULI[m]]
                counts = [how_many(p, reach, part) for p, part in zip(MODULI[m], parts)]
                self.same(how_many(m, reach, looks), counts[0] * counts[1])
                self.same(refusal(m, reach, looks) is None, 0 not in counts)
                if 0 not in counts:
                    self.same(more_looks(m, reach, looks), max(
                        more_looks(p, reach, part) for p, part in zip(MODULI[m], parts)))
                    cells = some_cells(chance, m, reach)
                    values = [sure_value(p, reach, part, tuple(c % p for c in cells))
                              for p, part in zip(MODULI[m], parts)]
                    expected = None if None in values else by_remainders(m, values)
                    self.same(sure_value(m, reach, looks, cells), expected)
                    self.same(further_hold(m, reach, looks, further_rules(m, reach, looks)), True)
