"""Promises 4, 6 and 10: step, round_step, added."""

from random import Random

from nearadds.rules import added, is_round, is_row, plus, power, round_step, step
from tests.cases import Case
from tests.worked import FAR, MODULI, round_behind, row_behind, row_behind_all, some_round, some_row, some_rule, sum_of


class Steps(Case):

    def test_near_rows(self):
        chance = Random(1)
        for m in MODULI:
            for _ in range(12):
                rule, row = some_rule(chance, m), some_row(chance, m)
                self.answers(row_behind_all(rule, row), step, ["rule", "row"], [rule, row])
                self.same(is_row(step(rule, row)), True)

    def test_the_one_cell_becomes_each_factor_at_the_place_less_the_offset(self):
        for m in MODULI:
            for offset in (-40, -4, -1, 0, 1, 4, 40):
                for factor in range(1, m):
                    told = step((m, ((offset, factor),)), (m, ((0, 1),)))
                    self.same(told, (m, ((-offset, factor),)))

    def test_far_rows(self):
        chance = Random(2)
        for m in MODULI:
            for near in (FAR, -FAR, FAR // 2):
                rule, row = some_rule(chance, m, many=9), some_row(chance, m, near=near)
                self.same(step(rule, row), row_behind(rule, row))
            row = (m, ((-FAR, 1), (-FAR + 1, m - 1), (0, 1), (FAR - 2, m - 1), (FAR, 1)))
            rule = some_rule(chance, m, -40, 40, 81)
            self.same(step(rule, row), row_behind(rule, row))

    def test_rows_of_30_cells_at_offsets_to_40(self):
        chance = Random(3)
        for m in MODULI:
            rule = some_rule(chance, m, -40, 40, 81)
            places = sorted([chance.randint(-FAR, FAR) for _ in range(15)] + [FAR - 3 * k for k in range(15)])
            row = (m, tuple((place, chance.randrange(1, m)) for place in places))
            self.same(step(rule, row), row_behind(rule, row))

    def test_rows_without_cells_and_rules_without_terms(self):
        for m in MODULI:
            rule, row = (m, ((-1, 1), (3, m - 1))), (m, ((FAR, 1),))
            self.same(step(rule, (m, ())), (m, ()))
            self.same(step((m, ()), row), (m, ()))
            self.same(step((m, ()), (m, ())), (m, ()))

    def test_cells_that_add_up_to_nought(self):
        for m, primes in MODULI.items():
            self.same(step((m, ((-1, 1), (1, 1))), (m, ((0, 1), (2, m - 1)))), (m, ((-1, 1), (3, m - 1))))
            if len(primes) == 2:
                self.same(step((m, ((0, primes[0]),)), (m, ((5, primes[1]),))), (m, ()))

    def test_powers_are_steps(self):
        chance = Random(4)
        for m in MODULI:
            rule, row = some_rule(chance, m, -2, 2, 4), some_row(chance, m, 5)
            behind = row
            for times in range(8):
                self.same(step(power(rule, times), row), behind)
                behind = row_behind(rule, behind)


class RoundSteps(Case):

    def test_round_rows(self):
        chance = Random(5)
        for m in MODULI:
            for many in (1, 2, 3, 4, 5, 7, 8, 9, 10, 12, 30, 60):
                rule, row = some_rule(chance, m), some_round(chance, m, many)
                self.answers(round_behind(rule, row), round_step, ["rule", "row"], [rule, row])
                told = round_step(rule, row)
                self.same([is_round(told), len(told[1])], [True, many])

    def test_round_rows_shorter_than_the_rule_is_wide(self):
        chance = Random(6)
        for m in MODULI:
            for many in range(1, 9):
                for rule in (some_rule(chance, m, many=9), some_rule(chance, m, -40, 40, 81)):
                    row = some_round(chance, m, many)
                    self.same(round_step(rule, row), round_behind(rule, row))

    def test_one_value(self):
        for m in MODULI:
            for value in range(m):
                rule = (m, ((-40, 1), (0, m - 1), (3, 1), (40, 1)))
                self.same(round_step(rule, (m, (value,))), (m, ((m + 2) * value % m,)))
                self.same(round_step((m, ()), (m, (value,))), (m, (0,)))
                self.same(round_step((m, ((7, 1),)), (m, (value,))), (m, (value,)))

    def test_the_way_round(self):
        for m in MODULI:
            row = (m, (1, 0, 0, 0, 0))
            for offset, place in ((0, 0), (1, 4), (-1, 1), (4, 1), (-4, 4), (40, 0), (-39, 4), (6, 4)):
                values = [0] * 5
                values[place] = m - 1
                self.same(round_step((m, ((offset, m - 1),)), row), (m, tuple(values)))

    def test_rules_without_terms(self):
        for m in MODULI:
            self.same(round_step((m, ()), (m, (1,) * 60)), (m, (0,) * 60))

    def test_60_values_at_offsets_to_40(self):
        chance = Random(7)
        for m in MODULI:
            rule, row = some_rule(chance, m, -40, 40, 81), some_round(chance, m, 60)
            self.same(round_step(rule, row), round_behind(rule, row))


class Sums(Case):

    def test_added(self):
        chance = Random(8)
        for m in MODULI:
            for _ in range(20):
                one, other = some_row(chance, m), some_row(chance, m)
                self.answers(sum_of(one, other), added, ["one", "other"], [one, other])

    def test_cells_that_add_up_to_nought(self):
        for m in MODULI:
            for k in range(1, m):
                self.same(added((m, ((FAR, k),)), (m, ((FAR, m - k),))), (m, ()))

    def test_rows_without_cells(self):
        for m in MODULI:
            row = (m, ((-FAR, 1), (FAR, m - 1)))
            self.same(added((m, ()), row), row)
            self.same(added(row, (m, ())), row)
            self.same(added((m, ()), (m, ())), (m, ()))

    def test_far_rows(self):
        chance = Random(9)
        for m in MODULI:
            one, other = some_row(chance, m, 30, FAR - 50, 50), some_row(chance, m, 30, FAR - 50, 50)
            self.same(added(one, other), sum_of(one, other))

    def test_a_step_of_a_sum_is_the_sum_of_steps(self):
        chance = Random(10)
        for m in MODULI:
            rule, further = some_rule(chance, m), some_rule(chance, m)
            one, other = some_row(chance, m), some_row(chance, m)
            self.same(step(rule, added(one, other)), sum_of(row_behind(rule, one), row_behind(rule, other)))
            self.same(step(plus(rule, further), one), sum_of(row_behind(rule, one), row_behind(further, one)))
