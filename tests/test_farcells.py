"""Promise 14: cell, cells, first_cell, last_cell, row_total, parting_cell."""

from math import comb
from random import Random

from nearadds.errors import InvalidNumber
from nearadds.farcells import cell, cells, first_cell, last_cell, parting_cell, row_total
from tests.cases import Case
from tests.test_programs import COMPOSITE, MOST, far_program
from tests.worked import FAR, MODULI, PRIMES, by_remainders, far_value, first_led, first_unlike, last_led, left_modulo
from tests.worked import power_of, program_behind, row_behind, some_program, some_row, some_rule, stretched_rule

NAMES = ["program", "row", "place"]


def far_place(chance, program, row, prime):
    """A place at which something may stand: terms are chosen, figure by figure of the times, that lead there."""
    place = chance.choice([at for at, value in row[1] if value % prime])
    for terms, times in program[1]:
        left, stretch = left_modulo((program[0], terms), prime), 1
        while times:
            made = power_of((prime, left), times % prime)[1]
            place -= stretch * chance.choice(made)[0]
            times, stretch = times // prime, stretch * prime
    return place


def alive(chance, modulus, most=6, near=0):
    """A row that is not nought modulo any prime."""
    while True:
        row = some_row(chance, modulus, most, near)
        if all(left_modulo(row, prime) for prime in MODULI[modulus]):
            return row


class SteppedByCells(Case):
    """Programs of few steps and few times, stepped cell by cell."""

    def told(self, seed, many=25):
        chance = Random(seed)
        for m in MODULI:
            for _ in range(many):
                near = chance.choice([0, 0, FAR - 100, 100 - FAR])
                yield some_program(chance, m), some_row(chance, m, 8, near), near

    def test_cells(self):
        for program, row, near in self.told(1):
            left = dict(program_behind(program, row)[1])
            for start in (-60, -9, 30):
                expected = [left.get(near + start + k, 0) for k in range(20)]
                self.answers(expected, cells, NAMES + ["count"], [program, row, near + start, 20])
                self.same(cells(program, row, near + start, 7), expected[:7])
            for place in list(left)[:5] + [near - 3]:
                self.answers(left.get(place, 0), cell, NAMES, [program, row, place])
                self.same(cells(program, row, place, 1), [left.get(place, 0)])

    def test_first_and_last_cell(self):
        for program, row, _ in self.told(2):
            left = program_behind(program, row)[1]
            self.answers(left[0][0] if left else None, first_cell, NAMES[:2], [program, row])
            self.answers(left[-1][0] if left else None, last_cell, NAMES[:2], [program, row])

    def test_row_total(self):
        for program, row, _ in self.told(3):
            left = program_behind(program, row)[1]
            self.answers(sum(value for _, value in left) % row[0], row_total, NAMES[:2], [program, row])

    def test_parting_cell(self):
        chance, seen = Random(4), set()
        for one, row, _ in self.told(4, 40):
            other = some_program(chance, one[0])
            if chance.randrange(3) == 0:
                other = (one[0], one[1][::-1])
            expected = first_unlike(program_behind(one, row), program_behind(other, row))
            seen.add(expected is None)
            self.answers(expected, parting_cell, ["one", "other", "row"], [one, other, row])
        self.assertEqual(seen, {True, False})


class FarOn(Case):
    """Great times, judged by their figures to the base of the prime."""

    def judged(self, program, row, place):
        expected = [far_value(program, row, place + k) for k in range(-2, 3)]
        self.same(cell(program, row, place), expected[2])
        self.same(cells(program, row, place - 2, 5), expected)
        return expected[2]

    def test_cells_where_something_stands(self):
        chance = Random(11)
        for m in MODULI:
            seen = set()
            for _ in range(8):
                program, row = far_program(chance, m, chance.randint(1, 3), -2, 2), alive(chance, m)
                place = far_place(chance, program, row, chance.choice(MODULI[m]))
                seen.add(self.judged(program, row, place) != 0)
            self.assertIn(True, seen)

    def test_far_rows(self):
        chance = Random(12)
        for m in MODULI:
            for near in (FAR, -FAR):
                program, row = far_program(chance, m, 2), alive(chance, m, 5, near)
                self.judged(program, row, far_place(chance, program, row, MODULI[m][-1]))

    def test_one_cell_of_two_terms_is_a_binomial(self):
        chance = Random(13)
        for m in MODULI:
            for _ in range(10):
                times = MOST - chance.randint(0, 10 ** 25)
                factor, row = chance.randrange(1, m), (m, ((7, 1),))
                program = (m, ((((-1, 1), (3, factor)), times),))
                for prime in MODULI[m]:
                    chosen = sum(stretch * chance.randint(0, figure) for stretch, figure in figures(times, prime))
                    for so_often in (chosen, chosen + 1, 0, times):
                        rests = [binomial(times, so_often, p) * pow(factor, so_often, p) % p for p in MODULI[m]]
                        place = 7 + (times - so_often) - 3 * so_often
                        self.same(cell(program, row, place), by_remainders(m, rests))
                        self.same(cells(program, row, place - 1, 3)[1], by_remainders(m, rests))

    def test_times_that_are_powers_of_the_prime(self):
        # Such a rule is the rule with each offset so many times as great: all cells are told by one step of it.
        chance = Random(14)
        for prime in PRIMES:
            often = 1
            while often <= MOST:
                rule, row = some_rule(chance, prime, -4, 4, 5), some_row(chance, prime, 10, chance.choice([0, FAR]))
                left = row_behind(stretched_rule(rule, often), row)[1]
                program = (prime, ((rule[1], often),))
                for place, value in left[::5]:
                    self.same(cell(program, row, place), value)
                self.same(first_cell(program, row), left[0][0] if left else None)
                self.same(last_cell(program, row), left[-1][0] if left else None)
                often *= prime ** 5

    def test_sums_of_few_powers_of_the_prime(self):
        chance = Random(15)
        for prime in PRIMES:
            highest = [k for k in range(100) if prime ** k <= MOST // 2][-1]
            for _ in range(3):
                rule, row = some_rule(chance, prime, -2, 2, 3), some_row(chance, prime, 4)
                rules = [stretched_rule(rule, prime ** k) for k in (0, 1, highest // 2, highest)]
                times = sum(prime ** k for k in (0, 1, highest // 2, highest))
                left = row
                for stretched in rules:
                    left = row_behind(stretched, left)
                program = (prime, ((rule[1], times),))
                for place, value in left[1][::7]:
                    self.same(cell(program, row, place), value)
                    expected = [dict(left[1]).get(place + k, 0) for k in range(-10, 10)]
                    self.same(cells(program, row, place - 10, 20), expected)

    def test_wide_rules(self):
        chance = Random(16)
        for m in (2, 3, 7, 10, 13):
            program = (m, tuple((some_rule(chance, m, -40, 40, 5)[1], MOST - k) for k in range(2)))
            row = alive(chance, m, 2)
            if all(first_led(program, prime) is not None for prime in MODULI[m]):
                self.judged(program, row, far_place(chance, program, row, MODULI[m][0]))

    def test_nothing_stands_beyond_the_span(self):
        chance = Random(17)
        for m, primes in MODULI.items():
            program, row = far_program(chance, m), alive(chance, m)
            firsts = [first_led(program, p) + left_modulo(row, p)[0][0] for p in primes]
            lasts = [last_led(program, p) + left_modulo(row, p)[-1][0] for p in primes]
            self.same([first_cell(program, row), last_cell(program, row)], [min(firsts), max(lasts)])
            self.assertNotEqual(self.judged(program, row, min(firsts)), 0)
            self.assertNotEqual(self.judged(program, row, max(lasts)), 0)
            self.same(cells(program, row, min(firsts) - 20, 20), [0] * 20)
            self.same(cells(program, row, max(lasts) + 1, 20), [0] * 20)
            for place in (FAR, -FAR):
                self.same(cell(program, row, place), 0)


def figures(times, prime):
    """The tuples (power of the prime, figure) of a number."""
    stretch, found = 1, []
    while times:
        found.append((stretch, times % prime))
        times, stretch = times // prime, stretch * prime
    return found


def binomial(n, k, prime):
    """The binomial coefficient modulo a prime, figure by figure."""
    value = 1
    while n or k:
        value = value * comb(n % prime, k % prime) % prime
        n, k = n // prime, k // prime
    return value


class Edges(Case):

    def test_no_steps_and_steps_of_0_times(self):
        for m in MODULI:
            row = (m, ((-FAR, 1), (0, m - 1), (FAR, 1)))
            for program in ((m, ()), (m, (((), 0),)), (m, ((((0, 1), (1, 1)), 0), ((), 0)))):
                self.same([cell(program, row, place) for place in (-FAR, 0, 1, FAR)], [1, m - 1, 0, 1])
                self.same([first_cell(program, row), last_cell(program, row)], [-FAR, FAR])
                self.same(row_total(program, row), (m + 1) % m)
                self.same(cells(program, row, -1, 3), [0, m - 1, 0])

    def test_nought(self):
        for m in MODULI:
            program, row = (m, ((((0, 1), (1, 1)), MOST), ((), 1))), (m, ((3, 1),))
            self.same([cell(program, row, 3), cells(program, row, 3, 2)], [0, [0, 0]])
            self.same([first_cell(program, row), last_cell(program, row), row_total(program, row)], [None, None, 0])
            self.same(parting_cell(program, (m, (((), MOST),)), row), None)
            self.same(parting_cell(program, (m, ()), row), (3, 0, 1))

    def test_rows_without_cells(self):
        for m in MODULI:
            one, row = (m, ((((0, 1), (1, 1)), MOST),)), (m, ())
            self.same([cell(one, row, 0), cells(one, row, -5, 20)], [0, [0] * 20])
            self.same([first_cell(one, row), last_cell(one, row), row_total(one, row)], [None, None, 0])
            self.same(parting_cell(one, (m, ()), row), None)

    def test_nought_modulo_one_prime(self):
        for m in COMPOSITE:
            for nought, other in (MODULI[m], MODULI[m][::-1]):
                program = (m, ((((-3, nought), (0, 1), (3, nought)), MOST),))
                # Modulo the one prime nothing moves, modulo the other one all does.
                row = (m, ((0, other), (9, nought)))
                self.same(left_modulo(row, nought), ((0, other % nought),))
                self.same([first_cell(program, row), last_cell(program, row)], [9 - 3 * MOST, 9 + 3 * MOST])
                self.same(cell(program, row, 0) % nought, other % nought)
                only = (m, ((0, other),))
                self.same([first_cell(program, only), last_cell(program, only)], [0, 0])
                self.same(row_total(program, only), far_value(program, only, 0))
                gone = (m, program[1] + ((((0, other),), 1),))
                self.same([first_cell(gone, row), last_cell(gone, row)], [0, 0])
                still = (m, ((((-3, nought), (0, 1), (3, nought)), 0),))
                self.same(parting_cell(program, still, only), None)
                self.same(parting_cell(program, still, row)[0], 9 - 3 * MOST)

    def test_counts(self):
        program, row = (6, ((((-1, 1), (1, 5)), 3),)), (6, ((0, 1),))
        left = dict(program_behind(program, row)[1])
        for count in range(1, 21):
            self.same(cells(program, row, -5, count), [left.get(k - 5, 0) for k in range(count)])
        for bad in (0, 21, -1, -20, FAR, -FAR):
            self.refused_both(InvalidNumber, bad, cells, NAMES + ["count"], [program, row, -5, bad])

    def test_each_answer_is_a_new_list(self):
        program, row = (2, ()), (2, ((0, 1),))
        told = cells(program, row, 0, 3)
        told.clear()
        self.same(cells(program, row, 0, 3), [1, 0, 0])

    def test_row_total_of_great_times(self):
        chance = Random(21)
        for m in MODULI:
            for _ in range(10):
                program, row = far_program(chance, m), some_row(chance, m)
                expected = sum(value for _, value in row[1])
                for terms, times in program[1]:
                    expected = expected * pow(sum(c for _, c in terms), times, m) % m
                self.same(row_total(program, row), expected % m)


class Parting(Case):

    def test_great_times(self):
        chance = Random(22)
        for m, primes in MODULI.items():
            for _ in range(6):
                shared, row = far_program(chance, m, 2, -2, 2), alive(chance, m, 5)
                one, other = some_rule(chance, m, -4, 4, 4), some_rule(chance, m, -4, 4, 4)
                other = (m, one[1][:-1] + other[1][:1]) if other[1][0] > one[1][-1] else other
                places = []
                for prime in primes:
                    told = first_unlike(*[row_behind((prime, left_modulo(rule, prime)), (prime, ((0, 1),)))
                                          for rule in (one, other)])
                    if told is not None:
                        # First cells of products are products of first ones.
                        places.append(told[0] + first_led(shared, prime) + left_modulo(row, prime)[0][0])
                programs = [(m, shared[1] + ((rule[1], 1),)) for rule in (one, other)]
                if places:
                    values = [far_value(program, row, min(places)) for program in programs]
                    self.assertNotEqual(*values)
                    self.same(parting_cell(*programs, row), (min(places), *values))
                else:
                    self.same(parting_cell(*programs, row), None)

    def test_programs_written_in_two_ways(self):
        chance = Random(23)
        for m in MODULI:
            one, row = far_program(chance, m), some_row(chance, m)
            terms, times = one[1][0]
            other = (m, ((terms, times // 3),) + one[1][1:] + ((terms, times - times // 3),))
            self.same(parting_cell(one, other, row), None)

    def test_programs_that_part_but_not_on_this_row(self):
        for m in COMPOSITE:
            for prime in MODULI[m]:
                one, other = (m, ((((0, 1), (1, prime)), MOST),)), (m, ((((0, 1), (2, prime)), MOST),))
                row = (m, tuple((place, m // prime) for place in (-FAR, 0, FAR)))
                self.same(parting_cell(one, other, row), None)
                self.assertIsNotNone(parting_cell(one, other, (m, ((0, 1),))))
