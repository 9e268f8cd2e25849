"""Promises 2 and 3: which error each function raises for what, and what it leaves as it is."""

import inspect
from itertools import combinations, product

from nearadds import errors, factors, farcells, programs, rounds, rules
from tests.asked import INTERFACE, KINDS, LIST, OF_MODULUS, PARTS, PROGRAM, ROUND, ROW, RULE, TAKEN
from tests.cases import Case
from tests.worked import FAR, MODULI, PRIMES, odd_objects, one_cell, spoiled
from tests.worked import told_factor, told_factored, told_parts, told_program, told_round, told_rule

OF_ANY_OBJECT = ("rule", "live_rule", "prime_rule", "program", "row", "round", "prime_round", "parts", "list",
                 "factor", "values", "looks", "cells", "even_rule", "even_program", "kind", "led_rule",
                 "prime_modulus_rule", "rule_text", "row_text", "round_text", "program_text")


def names_of(call):
    return list(inspect.signature(call).parameters)


class Interface(Case):

    def test_names_and_parameters(self):
        for module, functions in INTERFACE.items():
            for name, parameters in functions.items():
                call = getattr(module, name)
                self.assertEqual(names_of(call), parameters.split())
                for told in inspect.signature(call).parameters.values():
                    self.assertEqual((told.kind, told.default), (told.POSITIONAL_OR_KEYWORD, told.empty))

    def test_each_function_is_defined_in_its_file(self):
        for module, functions in INTERFACE.items():
            for name in functions:
                call = getattr(module, name)
                self.assertTrue(inspect.isfunction(call))
                self.assertEqual((call.__module__, call.__name__), (module.__name__, name))

    def test_each_function_that_refuses_is_tried_here(self):
        listed = {getattr(module, name) for module, functions in INTERFACE.items() for name in functions}
        told = {rules.is_rule, rules.is_row, rules.is_round, rules.is_program}
        self.assertEqual(listed - told, set(TAKEN))


class Refused(Case):

    def good(self, call):
        return [KINDS[kind][0] for kind in TAKEN[call][0]]

    def test_good_ones_are_answered(self):
        for call in TAKEN:
            told = call(*self.good(call))
            self.answers(told, call, names_of(call), self.good(call))

    def test_each_refused_argument(self):
        for call, (kinds, _) in TAKEN.items():
            for k, kind in enumerate(kinds):
                for bad in KINDS[kind][2]:
                    passed = self.good(call)
                    passed[k] = bad
                    self.refused_both(KINDS[kind][1], bad, call, names_of(call), passed)

    def test_of_two_faults_the_earlier_one_is_told(self):
        for call, (kinds, _) in TAKEN.items():
            for (k, first), (m, second) in combinations(enumerate(kinds), 2):
                for bad, worse in product(KINDS[first][2], KINDS[second][2]):
                    passed = self.good(call)
                    passed[k], passed[m] = bad, worse
                    self.refused(KINDS[first][1], bad, call, *passed)

    def test_odd_objects(self):
        for call, (kinds, _) in TAKEN.items():
            for k, kind in enumerate(kinds):
                if kind in OF_ANY_OBJECT:
                    for odd in odd_objects():
                        # No looks at all are looks.
                        if kind != "looks" or type(odd) is not tuple or len(odd):
                            passed = self.good(call)
                            passed[k] = odd
                            self.refused(KINDS[kind][1], odd, call, *passed)

    def of_moduli(self, call, moduli):
        """Arguments of which those that have to be of one modulus are of these moduli."""
        kinds, alike = TAKEN[call]
        passed = self.good(call)
        for k, m in zip(alike, moduli):
            passed[k] = OF_MODULUS[kinds[k]](m)
        return passed

    def test_unlike_moduli(self):
        for call, (kinds, alike) in TAKEN.items():
            known = PRIMES if "prime_rule" in kinds else MODULI
            for one, other in product(known, repeat=2):
                for k in range(1, len(alike)):
                    moduli = [one] * len(alike)
                    moduli[k] = other
                    passed = self.of_moduli(call, moduli)
                    if one != other:
                        self.refused_both(errors.Unlike, other, call, names_of(call), passed)
                    else:
                        self.answers(call(*passed), call, names_of(call), passed)
            if len(alike) == 3:
                passed = self.of_moduli(call, [2, 3, 5])
                self.refused_both(errors.Unlike, 3, call, names_of(call), passed)

    def test_unlike_moduli_are_told_ahead_of_what_is_wrong_with_later_ones(self):
        for call, (kinds, alike) in TAKEN.items():
            for k in range(alike[-1] + 1 if alike else len(kinds), len(kinds)):
                for bad in KINDS[kinds[k]][2]:
                    passed = self.of_moduli(call, [3, 2])
                    passed[k] = bad
                    self.refused_both(errors.Unlike, 2, call, names_of(call), passed)
            if len(alike) == 3:
                for bad in KINDS[kinds[2]][2]:
                    passed = self.of_moduli(call, [3, 2, 3])
                    passed[2] = bad
                    self.refused_both(errors.Unlike, 2, call, names_of(call), passed)

    def test_a_faulty_value_is_told_ahead_of_unlike_moduli(self):
        for call, (kinds, alike) in TAKEN.items():
            for k in alike:
                for bad in ((11, ((0, 11),)), (11, (-1,)), (11, [0]), (5, (7,)), (14, None)):
                    passed = self.good(call)
                    passed[k] = bad
                    self.refused_both(KINDS[kinds[k]][1], bad, call, names_of(call), passed)

    def test_empty_values_have_a_modulus_too(self):
        for call, (kinds, alike) in TAKEN.items():
            if alike and all(kinds[k] in ("rule", "row", "program") for k in alike):
                for one, other in ((2, 3), (6, 2)):
                    passed = self.good(call)
                    for k in alike:
                        passed[k] = (one, ())
                    passed[alike[-1]] = (other, ())
                    self.refused(errors.Unlike, other, call, *passed)

    def test_a_rule_is_not_taken_for_a_round_row_nor_a_list_for_a_rule(self):
        self.refused(errors.InvalidRound, RULE, rules.round_step, RULE, RULE)
        self.refused(errors.InvalidRow, ROUND, rules.step, RULE, ROUND)
        self.refused(errors.InvalidRule, ROUND, rules.step, ROUND, ROW)
        self.refused(errors.InvalidRule, LIST, rules.put_together, 6, LIST)
        self.refused(errors.InvalidFactor, PARTS, factors.of_factors, 6, PARTS)
        self.refused(errors.InvalidProgram, RULE, programs.span, RULE)
        self.refused(errors.InvalidRow, ROUND, farcells.first_cell, PROGRAM, ROUND)
        self.refused(errors.InvalidRound, ROW, rounds.round_after, PROGRAM, ROW)
        self.refused(errors.InvalidProgram, RULE, rounds.round_after, RULE, ROUND)


class SpoiledInOneThing(Case):
    """A good value with one thing in it another one: refused exactly if the document tells so."""

    def judged(self, call, passed, good, kind, expected):
        seen = set()
        for odd in spoiled(good):
            answer = expected(odd)
            seen.add(answer)
            if not answer:
                self.refused(kind, odd, call, *passed, odd)
            elif str(FAR) not in repr(odd):
                call(*passed, odd)
        self.assertIn(False, seen)

    def test_rules_and_rows(self):
        for m in MODULI:
            rule, row = (m, ((-1, 1), (0, m - 1))), (m, ((0, 1),))
            for odd in spoiled(rule):
                if told_rule(odd) and odd[0] != m:
                    self.refused(errors.Unlike, odd[0], rules.plus, rule, odd)
                elif not told_rule(odd):
                    self.refused(errors.InvalidRule, odd, rules.plus, rule, odd)
                    self.refused(errors.InvalidRule, odd, rules.power, odd, 2)
                    self.refused(errors.InvalidRule, odd, rules.by_prime, odd, MODULI[m][0])
                    self.refused(errors.InvalidRule, odd, factors.factored, odd)
                    self.refused(errors.InvalidRow, odd, rules.added, row, odd)
                else:
                    self.same(rules.plus((m, ()), odd), odd)

    def test_round_rows(self):
        for m in MODULI:
            for odd in spoiled((m, (0, m - 1, 1))):
                if told_round(odd) and odd[0] != m:
                    self.refused(errors.Unlike, odd[0], rules.round_step, rules.still(m), odd)
                elif told_round(odd):
                    self.same(rules.round_step(rules.still(m), odd), odd)
                else:
                    self.refused(errors.InvalidRound, odd, rules.round_step, rules.still(m), odd)

    def test_programs(self):
        for m in MODULI:
            program, row = (m, ((((0, 1),), 1),)), (m, (1, 0))
            for odd in spoiled((m, ((((-1, 1), (0, m - 1)), 3), ((), 0)))):
                if told_program(odd) and odd[0] != m:
                    self.refused(errors.Unlike, odd[0], programs.alike, program, odd)
                    self.refused(errors.Unlike, m, rounds.round_after, odd, row)
                elif told_program(odd):
                    self.same(programs.joined(program, odd), (m, program[1] + odd[1]))
                else:
                    for call in (programs.span, programs.total, programs.as_rule, programs.undone):
                        self.refused(errors.InvalidProgram, odd, call, odd)
                    for call in (programs.alike, programs.parting, programs.joined):
                        self.refused(errors.InvalidProgram, odd, call, program, odd)
                    self.refused(errors.InvalidProgram, odd, programs.power_of, odd, -1)
                    self.refused(errors.InvalidProgram, odd, rounds.round_after, odd, row)
                    self.refused(errors.InvalidProgram, odd, farcells.parting_cell, program, odd, one_cell(m))

    def test_parts(self):
        for m, primes in MODULI.items():
            for good in ([()] * len(primes), [((-1, 1), (2, prime - 1)) for prime in primes]):
                self.judged(rules.put_together, [m], good, errors.InvalidRule, lambda odd: told_parts(m, odd))

    def test_lists_of_factors(self):
        for m, primes in MODULI.items():
            for good in ([(prime,) for prime in primes], [(prime, -2, prime - 1, ()) for prime in primes],
                         [(prime, 0, 1, (((1, 1), 2),)) for prime in primes],
                         [(prime, 3, 1, (LONGER[prime], ((prime - 1, 1), 3))) for prime in primes]):
                self.judged(factors.of_factors, [m], good, errors.InvalidFactor, lambda odd: told_factored(m, odd))

    def test_prime_factors(self):
        for prime in PRIMES:
            for good in ((1, 1), LONGER[prime][0], (1, 1, 0, 1)):
                self.judged(factors.order, [prime], good, errors.InvalidFactor, lambda odd: told_factor(prime, odd))


LONGER = {2: ((1, 0, 1, 1), 1), 3: ((1, 0, 1), 1), 5: ((1, 0, 0, 2, 1), 1), 7: ((1, 0, 1), 2), 11: ((1, 0, 1), 1),
          13: ((1, 0, 0, 2, 1), 1)}


class LongFactors(Case):

    def test_long_parts_that_are_products(self):
        for prime, poly in ((13, (9, *[0] * 71, 1)), (7, (5, *[0] * 53, 1)), (2, (1, *[0] * 79, 1)),
                            (3, (2, *[0] * 79, 1))):
            value = [(prime, -40, 1, ((poly, 1),))]
            self.refused_both(errors.InvalidFactor, value, factors.of_factors, ["modulus", "value"], [prime, value])


class NothingIsKept(Case):

    def test_a_refused_list_that_is_changed_later_leaves_the_error_as_it_is(self):
        inner = [1]
        for call, passed, k in ((rules.plus, [[2, inner], RULE], 0), (rules.put_together, [6, [inner, (inner,)]], 1),
                                (factors.of_factors, [6, [inner, inner]], 1), (factors.order, [3, (1, inner)], 1),
                                (rules.step, [RULE, (inner, inner)], 1), (rules.round_step, [RULE, [[inner]]], 1),
                                (rules.added, [ROW, (6, inner)], 1)):
            try:
                call(*passed)
            except errors.NearError as error:
                told = error.value
            self.same(told, passed[k])
            before = repr(told)
            inner.append(2)
            self.assertEqual(repr(told), before)
            inner.pop()

    def test_lists_in_dicts_and_sets_need_not_be_new(self):
        inner = {1: [2], "k": ([3],)}
        for call, passed in ((rules.plus, [RULE, inner]), (rules.put_together, [6, [inner, [inner]]]),
                             (factors.of_factors, [6, (inner,)])):
            self.refused(self.kind(call), passed[-1], call, *passed)

    def kind(self, call):
        return KINDS[TAKEN[call][0][-1]][1]

    def test_one_list_in_two_places_is_two_in_the_error(self):
        twice = [[1]]
        for call, passed in ((rules.plus, [RULE, (twice, twice)]), (rules.put_together, [6, [twice, twice, twice[0]]]),
                             (factors.of_factors, [6, [twice, (twice,)]]), (factors.order, [3, [twice, [twice]]])):
            self.refused(self.kind(call), passed[-1], call, *passed)

    def test_deeply_nested_objects(self):
        for levels in (2, 50, 100):
            for kind in (list, tuple):
                value = kind([])
                for _ in range(levels - 1):
                    value = kind([value, 1])
                self.refused(errors.InvalidRule, value, rules.plus, value, RULE)
                self.refused(errors.InvalidRule, value, rules.put_together, 6, value)
                self.refused(errors.InvalidFactor, value, factors.of_factors, 6, value)

    def test_lists_that_were_passed_are_not_kept(self):
        parts, entries = [((0, 1),), ((0, 2),)], [(2,), (3, 0, 1, ())]
        told = [rules.put_together(6, parts), factors.of_factors(6, entries)]
        parts.clear()
        entries.clear()
        self.same(told, [(6, ((0, 5),)), (6, ((0, 4),))])

    def test_each_answer_is_a_new_list(self):
        for call, passed in ((rules.primes_of, [6]), (factors.factored, [RULE]), (factors.common, [RULE, RULE])):
            first = call(*passed)
            expected = list(first)
            first.clear()
            self.same(call(*passed), expected)

    def test_an_error_changes_nothing(self):
        for call, passed in ((rules.primes_of, [6]), (rules.power, [RULE, 2]), (factors.factored, [RULE])):
            expected = call(*passed)
            with self.assertRaises(errors.NearError):
                call(None, *passed[1:])
            self.same(call(*passed), expected)
