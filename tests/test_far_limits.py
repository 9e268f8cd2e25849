"""Promises 2 and 12 to 14: programs, meets and far cells at the very limits answer, and rightly."""

from random import Random

from nearadds.farcells import cell, cells, first_cell, last_cell, parting_cell, row_total
from nearadds.meets import comes_round, greatest_root, meets, meets_at, meets_often, root
from nearadds.programs import alike, as_rule, joined, parting, power_of, span, total, undone
from nearadds.rules import behind, power
from tests.cases import Case
from tests.worked import FAR, MODULI, PRIMES, far_value, first_led, first_unlike, last_led, left_modulo, one_cell
from tests.worked import power_of as powered, row_behind, some_rule

MOST = 10 ** 30


def nine_terms(modulus, by):
    """A rule with all offsets to 4 on either side and unlike factors, none nought modulo a prime of the modulus."""
    fronts = [c for c in range(1, modulus) if all(c % prime for prime in MODULI[modulus])]
    return tuple((d, fronts[(d * d + by * d + by) % len(fronts)]) for d in range(-4, 5))


def wide_terms(modulus, by):
    fronts = [c for c in range(1, modulus) if all(c % prime for prime in MODULI[modulus])]
    return tuple((d, fronts[(d * d + by * d + by) % len(fronts)]) for d in range(-40, 41))


def six_steps(modulus, terms_by):
    return modulus, tuple((terms_by(modulus, k), MOST - 10 ** 20 * k - k) for k in range(6))


def ends_of(program):
    firsts = [first_led(program, prime) for prime in MODULI[program[0]]]
    return min(firsts), max(last_led(program, prime) for prime in MODULI[program[0]])


class SixSteps(Case):

    def test_programs(self):
        for m in MODULI:
            for terms_by in (nine_terms, wide_terms):
                program = six_steps(m, terms_by)
                self.same(span(program), ends_of(program))
                expected = 1
                for terms, times in program[1]:
                    expected = expected * pow(sum(c for _, c in terms), times, m) % m
                self.same(total(program), expected)
                self.same([as_rule(program), undone(program)], [None, None])
                self.same(power_of(program, 1), program)
                self.same(len(joined(program, program)[1]), 12)

    def test_alike(self):
        for m in MODULI:
            for terms_by in (nine_terms, wide_terms):
                program = six_steps(m, terms_by)
                self.same(alike(program, (m, program[1][::-1])), True)
                self.same(parting(program, (m, program[1][3:] + program[1][:3])), None)
                parted = []
                for terms, times in program[1]:
                    parted += [(terms, times // 2), (terms, times - times // 2)]
                self.same(alike(program, (m, tuple(parted))), True)

    def test_parting(self):
        for m in MODULI:
            for terms_by in (nine_terms, wide_terms):
                program = six_steps(m, terms_by)
                for k in (0, 5):
                    terms, times = program[1][k]
                    for other in (terms[:-1], terms[1:], terms[:2] + terms[3:])[:3 if len(terms) == 9 else 1]:
                        shared = program[1][:k] + ((terms, times - 1),) + program[1][k + 1:]
                        programs = [(m, shared + ((told, 1),)) for told in (terms, other)]
                        places = []
                        for prime in MODULI[m]:
                            small = [(prime, left_modulo((m, told), prime)) for told in (terms, other)]
                            place = first_unlike(*[row_behind(rule, one_cell(prime)) for rule in small])[0]
                            places.append(first_led((m, shared), prime) + place)
                        told = parting(*programs)
                        self.same(told[0], min(places))
                        self.assertNotEqual(told[1], told[2])
                        self.same(alike(*programs), False)
                        if terms_by == nine_terms and m < 4:
                            values = [far_value(program, one_cell(m), told[0]) for program in programs]
                            self.same(list(told[1:]), values)

    def test_cells(self):
        chance = Random(1)
        for m in MODULI:
            program = six_steps(m, nine_terms)
            first, last = ends_of(program)
            near = FAR - last - 10
            count = 30 if m < 4 else 2
            spread = sorted(chance.randint(first // 3, last // 3) for _ in range(count))
            row = (m, tuple((near + at, chance.randrange(1, m)) for at in spread))
            for place in (near + 5, near + first // 2):
                expected = far_value(program, row, place)
                self.same(cell(program, row, place), expected)
                self.same(cells(program, row, place - 19, 20)[19], expected)
                self.same(cells(program, row, place, 20)[0], expected)

    def test_30_cells_of_which_most_are_too_far_away(self):
        for m in MODULI:
            program = six_steps(m, wide_terms)
            first, last = ends_of(program)
            places = [-FAR + 7 * k for k in range(15)] + [FAR - 100 + 6 * k for k in range(15)]
            row = (m, tuple((place, m - 1) for place in places))
            self.same([first_cell(program, row), last_cell(program, row)], [first - FAR, last + places[-1]])
            self.same(cell(program, row, 0), 0)
            self.same(cells(program, row, -5, 20), [0] * 20)
            self.assertNotEqual(cell(program, row, first - FAR), 0)
            self.assertNotEqual(cells(program, row, last + places[-1] - 19, 20)[-1], 0)
            self.same(row_total(program, row), -30 * total(program) % m)

    def test_parting_cell(self):
        for m in MODULI:
            program = six_steps(m, wide_terms)
            row = (m, tuple((FAR - 1000 + 31 * k, 1) for k in range(30)))
            self.same(parting_cell(program, (m, program[1][::-1]), row), None)
            other = (m, program[1][:5] + ((program[1][5][0], program[1][5][1] - 1),))
            told = parting_cell(program, other, row)
            self.same(told[0], FAR - 1000 + parting(program, other)[0])
            self.same(list(told[1:]), [cell(program, row, told[0]), cell(other, row, told[0])])
            self.assertNotEqual(told[1], told[2])


class WideRules(Case):
    """Rules done as often as great powers of the prime, so unlike that each place is told by one term of each."""

    def steps_of(self, prime):
        """The powers of the prime: nowhere do the sums of offsets of unlike terms meet."""
        gap = [k for k in range(1, 9) if prime ** k > 200][0]
        highest = [k for k in range(100) if prime ** k <= MOST][-1]
        return [prime ** (highest - gap * k) for k in range(6)][::-1]

    def coefficient(self, parts, distance, prime):
        """What is at this distance, if the one step that each rule is leads there; parts from the least stretch on."""
        value, stretches = 1, [stretch for _, stretch in parts] + [None]
        for (terms, stretch), further in zip(parts, stretches[1:]):
            # All further offsets are multiples of the next stretch: so the rest tells this one.
            rests = [d for d in terms if further is None or (distance + d * stretch) % further == 0]
            rests = [d for d in rests if further is not None or distance + d * stretch == 0]
            if len(rests) != 1:
                return 0
            distance += rests[0] * stretch
            value = value * terms[rests[0]] % prime
        return value if distance == 0 else 0

    def test_cells(self):
        chance = Random(2)
        for m in MODULI:
            for prime in MODULI[m]:
                stretches = self.steps_of(prime)
                program = (m, tuple((wide_terms(m, k), stretch) for k, stretch in enumerate(stretches)))
                parts = [(dict(left_modulo((m, terms), prime)), stretch) for terms, stretch in program[1]]
                place = FAR - 200 * sum(stretches)
                # Each cell of the row is led to the place by some terms, or to a cell close to it.
                led = [sum(chance.randint(-40, 40) * stretch for stretch in stretches) for _ in range(30)]
                places = sorted({place + by + chance.choice([0, 0, 3, 19]) for by in led})
                row = (m, tuple((at, chance.randrange(1, m)) for at in places))
                expected = []
                for k in range(20):
                    total_of = 0
                    for at, value in row[1]:
                        total_of += value * self.coefficient(parts, place + k - at, prime)
                    expected.append(total_of % prime)
                self.assertTrue(any(expected))
                self.same([value % prime for value in cells(program, row, place, 20)], expected)
                self.same([cell(program, row, place + k) % prime for k in (0, 3, 19)],
                          [expected[k] for k in (0, 3, 19)])
                turned = (m, program[1][::-1])
                self.same(parting_cell(program, turned, row), None)

    def test_six_rules_that_power_made(self):
        chance = Random(3)
        for m in MODULI:
            base = (m, ((-4, 1), (0, m - 1), (3, 1), (4, 1)))
            made, wide = power(base, 10), behind(power(base, 9), (m, ((0, 1), (1, 1))))
            self.same([made[1][0][0], made[1][-1][0]], [-40, 40])
            times = [MOST // 10 - chance.randint(0, 10 ** 25) for _ in range(6)]
            one = (m, tuple((made[1], number) for number in times[:3]) + tuple((wide[1], n) for n in times[3:]))
            steps = [(base[1], 10 * number) for number in times[:3]] + [(base[1], 9 * n) for n in times[3:]]
            other = (m, tuple(steps) + ((((0, 1), (1, 1)), sum(times[3:])),))
            self.same([alike(one, other), parting(one, other)], [True, None])
            row = (m, ((FAR - 5, 1), (FAR, m - 1)))
            self.same(parting_cell(one, other, row), None)
            place = FAR - 7 * sum(times)
            self.same(cells(one, row, place, 20), cells(other, row, place, 20))

    def test_spans_of_199(self):
        for m in MODULI:
            wide = wide_terms(m, 2)
            program = (m, ((wide, 2), (((-4, m - 1), (4, 1)), 4), (((0, 1), (7, 1)), 1), (((4, 1),), MOST)))
            made = powered((m, wide), 2)
            for terms in [((-4, m - 1), (4, 1))] * 4 + [((0, 1), (7, 1))]:
                made = behind(made, (m, terms))
            self.same(as_rule(program), (m, tuple((d + 4 * MOST, c) for d, c in made[1])))
            self.same(span(program)[1] - span(program)[0], 199)


class Meets(Case):

    def test_rules_of_nine_terms(self):
        chance = Random(4)
        for m in MODULI:
            for _ in range(4):
                one, other = some_rule(chance, m, -4, 4, 9), some_rule(chance, m, -4, 4, 9)
                self.same(meets(one, one), (1, 1))
                self.same(meets_at(one, one, MOST, MOST), True)
                told = meets(one, other)
                self.same(meets_often(one, other), told and "multiples")
                if told is None:
                    self.same(meets_at(one, other, MOST, MOST), False)
                self.same(root(one, 1), one)
                self.same([greatest_root(one), comes_round(one)][1], None)

    def test_powers_of_the_greatest_width(self):
        for prime in PRIMES:
            for a, b in ((4, 3), (3, 4), (4, 1), (2, 3)):
                one, other = [powered((prime, ((-1, 1), (0, 2), (1, 1)) if prime > 2 else ((-1, 1), (1, 1))), k)
                              for k in (a, b)]
                moved = (prime, tuple((d + 1, c) for d, c in other[1]))
                if moved[1][-1][0] < 5:
                    self.same([meets(one, moved), meets_often(one, moved)], [None, None])
                self.same([meets(one, other), meets_often(one, other)], [(b, a), "multiples"])
                self.same(meets_at(one, other, b * 10 ** 29, a * 10 ** 29), True)
                self.same(meets_at(one, other, b * 10 ** 29, a * 10 ** 29 - 1), False)


class ReportedAsLong(Case):
    """A call of which it was reported that it took long: what it told then it tells still."""

    PROGRAM = (10, (
        (((-4, 3), (-3, 5), (-2, 6), (-1, 2), (3, 7), (4, 2)), 999999999999999999999999999932),
        (((-4, 7), (-2, 8), (-1, 8), (0, 9), (1, 9), (2, 1), (4, 1)), 532684684067206297915874785879),
        (((0, 7), (1, 9)), 717620657672411690224271274768),
        (((-4, 2), (-3, 5), (-2, 1), (0, 1), (2, 8), (3, 4), (4, 9)), 1000000000000000000000000000000),
        (((-4, 8), (-3, 7), (-1, 8), (0, 6), (1, 2), (2, 4), (3, 1), (4, 4)), 470868111293119958474936813649),
        (((-4, 3), (-2, 8), (-1, 2), (3, 2)), 999999999999999999999999999967)))
    NEAR = 53288855297638219774221969325311314941591014827060056226610
    PLACE = 53288855297638219774221969326309944402509317957534636479011

    def row(self, gap):
        return 10, tuple((self.NEAR + gap * k, 1 + k % 9) for k in range(30))

    def test_the_cell(self):
        self.same(cell(self.PROGRAM, self.row(5), self.PLACE), 1)

    def test_cells_near_it_and_cells_of_rows_that_are_added(self):
        told = cells(self.PROGRAM, self.row(5), self.PLACE - 9, 20)
        self.same(told[9], 1)
        for k in (0, 4, 19):
            self.same(cell(self.PROGRAM, self.row(5), self.PLACE - 9 + k), told[k])
        # What is left of a row is the sum of what is left of its cells, one by one.
        for gap in (5, 10 ** 9, 10 ** 28):
            for many in (1, 3):
                row = self.row(gap)
                by_cells = [cells(self.PROGRAM, (10, (one,)), self.PLACE, many) for one in row[1]]
                self.same(cells(self.PROGRAM, row, self.PLACE, many), [sum(part) % 10 for part in zip(*by_cells)])

    def test_one_cell_traced_back(self):
        for k in (0, 29):
            row = (10, self.row(5)[1][k:k + 1])
            self.same(cell(self.PROGRAM, row, self.PLACE), far_value(self.PROGRAM, row, self.PLACE))
