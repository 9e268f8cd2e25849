"""Promises 4 to 6 and 10: is_rule, is_row, is_round, is_program, primes_of, still."""

from random import Random

from nearadds.errors import InvalidModulus
from nearadds.rules import is_program, is_round, is_row, is_rule, primes_of, still
from tests.cases import Case
from tests.worked import FAR, MODULI, odd_objects, some_round, some_row, some_rule, spoiled
from tests.worked import told_program, told_round, told_rule

MOST = 10 ** 30
NO_MODULI = [k for k in range(-31, 40) if k not in MODULI] + [49, 121, 169, 143, 210, FAR, -FAR, 2 * FAR]


class Rules(Case):

    def test_rules_of_all_moduli(self):
        for m in MODULI:
            for terms in ((), ((0, 1),), ((-1, m - 1),), ((-4, 1), (0, m - 1), (4, 1)), ((-40, 1), (40, 1)),
                          ((-FAR, 1), (-1, 1), (FAR, m - 1)), tuple((d, 1) for d in range(-40, 41))):
                for told in (is_rule, is_row):
                    self.same(told((m, terms)), True)

    def test_what_is_none(self):
        for m in MODULI:
            for terms in (((0, 0),), ((0, m),), ((0, m + 1),), ((0, -1),), ((0, FAR),), ((0, 1), (0, 1)),
                          ((0, 1), (0, m - 1)), ((1, 1), (0, 1)), ((0, 1), (-1, 1)), ((-1, 1), (1, 1), (0, 1)),
                          ((0, True),), ((True, 1),), ((False, 1),), ((0, False),), ((0, "1"),), (("0", 1),),
                          ((0, None),), ((None, 1),), ((0, 1, 1),), ((0,),), ((),), (0, 1), ([0, 1],), [(0, 1)],
                          [], {}, None, 0, 1, "", "01", ("01",), (b"01",), ({0: 1, 1: 1},), range(0),
                          ((0, 1), None), ((0, 1), [1, 1]), (((0, 1),),), ((0, (1,)),), (((0,), 1),)):
                for told in (is_rule, is_row):
                    self.same(told((m, terms)), False)
                    self.same(told((m, terms, ())), False)
                self.same(told([m, terms]), False)
                self.same(is_program((m, ((terms, 1),))), False)

    def test_modulus(self):
        for told, part in ((is_rule, ()), (is_row, ()), (is_round, (0,)), (is_program, ())):
            for m in MODULI:
                self.same(told((m, part)), True)
                self.same(told((m,)), False)
                self.same(told((part, m)), False)
                self.same(told([m, part]), False)
                self.same(told((m, part, part)), False)
                self.same(told((str(m), part)), False)
                self.same(told(((m,), part)), False)
            for m in NO_MODULI + [True, False, None]:
                self.same(told((m, part)), False)

    def test_odd_objects(self):
        for told in (is_rule, is_row, is_round, is_program):
            for value in odd_objects():
                self.same(told(value), False)
                self.same(told(value=value), False)

    def test_rules_and_rows_spoiled_in_one_thing(self):
        chance = Random(1)
        for m in MODULI:
            for value in (some_rule(chance, m, many=0), some_rule(chance, m, many=1), some_rule(chance, m, many=4),
                          some_row(chance, m, 5), (m, ((-1, 1), (0, m - 1), (1, 1)))):
                found = [(told_rule(odd), odd) for odd in spoiled(value)]
                for expected, odd in found:
                    self.same(is_rule(odd), expected)
                    self.same(is_row(odd), expected)
                self.assertGreater(sum(not expected for expected, _ in found), 9)


class Rounds(Case):

    def test_round_rows_of_all_moduli(self):
        for m in MODULI:
            for values in ((0,), (m - 1,), (0, 0), tuple(range(m)), (0,) * 60, (m - 1,) * 200):
                self.same(is_round((m, values)), True)

    def test_what_is_none(self):
        for m in MODULI:
            for values in ((), [0], (m,), (0, m), (-1,), (0, -1), (True,), (False,), (0, True), ("0",), (None,),
                           ((0,),), ([0],), 0, None, "0", b"0", {0: 0}, {0}, range(1), FAR, (FAR,), (-FAR,)):
                self.same(is_round((m, values)), False)

    def test_round_rows_spoiled_in_one_thing(self):
        chance = Random(2)
        for m in MODULI:
            for many in (1, 2, 5):
                for odd in spoiled(some_round(chance, m, many)):
                    self.same(is_round(odd), told_round(odd))


class Programs(Case):

    def test_programs_of_all_moduli(self):
        for m in MODULI:
            for steps in ((), (((), 0),), (((), MOST),), ((((0, m - 1),), 1),), ((((-4, 1), (4, 1)), MOST),),
                          (((), 0),) * 6, ((((1, 1),), 2), (((0, 1),), 1)), ((((1, 1),), 2),) * 9):
                self.same(is_program((m, steps)), True)

    def test_what_is_none(self):
        for m in MODULI:
            for steps in ((((), -1),), (((), MOST + 1),), (((), True),), (((), False),), (((), None),), (((), "1"),),
                          (((),),), (((), 1, 1),), ((1, ()),), ([(), 1],), (([], 1),), [((), 1)], [], {}, None, 1,
                          "", ((),), ((), 1), (((m, ()), 1),), ((((0, m),), 1),), ((((0, 0),), 1),),
                          ((((0, 1), (0, 1)), 1),), ((((1, 1), (0, 1)), 1),), (((), 1), None), (((), (1,)),),
                          (((), FAR),), (((), -FAR),)):
                self.same(is_program((m, steps)), False)

    def test_the_terms_are_those_of_the_modulus(self):
        self.same(is_program((15, ((((0, 14),), 1),))), True)
        self.same(is_program((14, ((((0, 14),), 1),))), False)

    def test_programs_spoiled_in_one_thing(self):
        for m in MODULI:
            for value in ((m, ()), (m, (((), 1),)), (m, ((((-1, 1), (2, m - 1)), MOST), (((0, 1),), 0)))):
                for odd in spoiled(value):
                    self.same(is_program(odd), told_program(odd))


class Moduli(Case):

    def test_primes_of(self):
        for m, primes in MODULI.items():
            self.answers(primes, primes_of, ["modulus"], [m])
            told = primes_of(m)
            told.append(0)
            self.same(primes_of(m), primes)

    def test_still(self):
        for m in MODULI:
            self.answers((m, ((0, 1),)), still, ["modulus"], [m])

    def test_no_moduli(self):
        for m in NO_MODULI:
            for call in (primes_of, still):
                self.refused_both(InvalidModulus, m, call, ["modulus"], [m])
