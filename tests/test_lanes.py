"""Helpers of far cells: polynomials as single great numbers, and what a polynomial leaves of powers of x."""

from random import Random

from nearadds.blocks import clusters, levels_of, value_at, window
from nearadds.circles import laid_around, left_around
from nearadds.lanes import Lanes, text_of, values_of
from nearadds.leavings import Leavings
from nearadds.polys import divided, multiplied, stretched
from nearadds.recurring import row_remainder, turns_for
from tests.cases import Case
from tests.worked import PRIMES, rest_of_x, some_monic, times


def in_lanes(values, lanes):
    return sum(value << lanes.width * k for k, value in enumerate(values))


def some_values(chance, prime, many):
    return [chance.choice([0, prime - 1, chance.randrange(prime)]) for _ in range(many)]


class InLanes(Case):

    def test_remainders_up_to_the_greatest_sum(self):
        for prime in PRIMES:
            for most in (1, 2, 3, 7, 9, 49, 50, 97, 577, 5761):
                lanes, greatest = Lanes(prime, most), (prime - 1) ** 2 * most + prime
                near = sorted({max(0, k) for part in range(5) for k in range(greatest * part // 4 - 30, greatest + 1)
                               if k < greatest * part // 4 + 30} | {greatest, greatest - 1})
                for values in (near, near[::-1], [greatest] * 200, [0, greatest] * 3, [greatest, 0, 0]):
                    number = lanes.reduced(in_lanes(values, lanes))
                    self.same(number, in_lanes([value % prime for value in values], lanes))
                self.same(lanes.reduced(0), 0)

    def test_products(self):
        chance = Random(1)
        for prime in PRIMES:
            for one_many, other_many in ((1, 1), (1, 9), (8, 40), (300, 17), (500, 1), (64, 64)):
                one, other = some_values(chance, prime, one_many), some_values(chance, prime, other_many)
                lanes = Lanes(prime, min(one_many, other_many))
                number = lanes.multiplied(lanes.number(text_of(one), 1), lanes.number(text_of(other), 1))
                self.same(number, in_lanes(times(one, other, prime), lanes))

    def test_texts(self):
        chance = Random(2)
        for prime in PRIMES:
            lanes, values = Lanes(prime, 9), some_values(chance, prime, 40) + [prime - 1]
            self.same(values_of(text_of(values)), values)
            self.same(lanes.number(text_of(values), 1), in_lanes(values, lanes))
            self.same(lanes.number("", 1), 0)
            far = [0] * (3 * 40 + 1)
            far[::3] = values
            self.same(lanes.number(text_of(values), 3), in_lanes(far, lanes))
            number = in_lanes(values, lanes)
            for first in (0, 1, 5, 40, 41, 60):
                for by in (1, 2, 7, 50):
                    self.same(values_of(lanes.text(number, first, by)), values[first::by])

    def test_long_products_of_lists(self):
        chance = Random(3)
        for prime in PRIMES:
            for many in ((12, 12), (13, 13), (13, 200), (12, 13)):
                one, other = [some_values(chance, prime, k - 1) + [1] for k in many]
                self.same(multiplied(one, other, prime), list(times(one, other, prime)))
                quotient, rest = divided(times(one, other, prime), other, prime)
                self.same([quotient, rest], [one, []])


class Blocks(Case):

    def whole(self, parts, prime):
        made = (1,)
        for poly, often in parts:
            for _ in range(often):
                made = times(made, poly, prime)
        return made

    def some_parts(self, chance, prime):
        return [(list(some_monic(chance, prime, chance.randint(2, 6))), chance.randint(1, 30)) for _ in range(3)]

    def test_windows(self):
        chance = Random(11)
        for prime in PRIMES:
            for parts in ([], [([1], 5)], [([1, 1], 1)], self.some_parts(chance, prime), self.some_parts(chance, prime)):
                made = self.whole(parts, prime)
                lanes, levels = levels_of(parts, prime, 1)
                for low in (-40, -3, -1, 0, 1, 5, len(made) - 2, len(made), len(made) + 30, len(made) // 2):
                    for many in (1, 2, 20, 200):
                        told = [made[k] if 0 <= k < len(made) else 0 for k in range(low, low + many)]
                        self.same(window(lanes, levels, low, many), told)

    def test_values_of_rows(self):
        chance = Random(12)
        for prime in PRIMES:
            for gap in (1, 5, 199, 200, 201, 10 ** 4):
                parts = self.some_parts(chance, prime)
                made = self.whole(parts, prime)
                lanes, levels = levels_of(parts, prime, 1)
                cells = tuple((7 + gap * k, chance.randrange(1, 2 * prime)) for k in range(8))
                for place in [7 + gap * k + chance.randint(0, len(made)) for k in range(8)] + [-1, 6, 7, 10 ** 9]:
                    told = [value * made[place - at] for at, value in cells if 0 <= place - at < len(made)]
                    self.same(value_at(lanes, levels, cells, place), sum(told) % prime)

    def test_clusters(self):
        self.same(clusters(((0, 1), (1, 3), (4, 2)), 3), [(0, "10002")])
        self.same(clusters(((-5, 4), (195, 12), (500, 1)), 13), [(-5, "4" + "0" * 199 + "c"), (500, "1")])
        self.same(clusters(((-5, 4), (196, 12)), 13), [(-5, "4"), (196, "c")])
        self.same(clusters(((0, 2), (3, 4)), 2), [])

    def test_around(self):
        chance = Random(13)
        for prime in PRIMES:
            for many in (1, 2, 3, 7, 13, 60):
                parts, values = self.some_parts(chance, prime), some_values(chance, prime, many)
                for first in (0, -4, 10 ** 20 + 1):
                    left = [0] * many
                    for k, much in enumerate(self.whole(parts, prime)):
                        for at, value in enumerate(values):
                            left[(at + k + first) % many] += much * value
                    self.same(left_around((first, parts), values, prime), [value % prime for value in left])

    def test_laid_around(self):
        for prime in PRIMES:
            lanes, values = Lanes(prime, 100), [prime - 1] * 100
            for many in (1, 2, 3, 99, 100, 101):
                told = [sum(values[k::many]) % prime for k in range(min(many, 100))]
                self.same(laid_around(lanes, in_lanes(values, lanes), many), in_lanes(told, lanes))


class OfPowersOfX(Case):

    def test_leavings(self):
        chance = Random(21)
        for prime in PRIMES:
            for many in (2, 3, 5, 9, 30):
                poly = some_monic(chance, prime, many)
                share = chance.randrange(1, prime)
                leavings = Leavings([value * share % prime for value in poly], prime)
                for power in (0, 1, 2, many - 1, many, prime ** 3, 10 ** 20 + chance.randrange(10 ** 6)):
                    self.same(leavings.power(power), rest_of_x(power, poly, prime))
                self.same(leavings.further(leavings.one, many + 3), rest_of_x(many + 3, poly, prime))

    def test_turns(self):
        chance = Random(22)
        for prime in PRIMES:
            for width, often in ((1, 1), (2, 1), (3, 2), (8, 1), (4, 10), (1, 40)):
                turns = turns_for(width, often, prime)
                for _ in range(3):
                    poly = (1,)
                    for _ in range(often):
                        poly = times(poly, some_monic(chance, prime, width + 1), prime)
                    once = some_monic(chance, prime, width + 1)
                    power = (1,)
                    for _ in range(often):
                        power = times(power, once, prime)
                    self.same(rest_of_x(turns, power, prime), rest_of_x(0, power, prime))

    def test_sums_of_rows(self):
        chance = Random(23)
        for prime in PRIMES:
            for gap in (1, 63, 64, 65, 10 ** 9):
                poly = some_monic(chance, prime, 5)
                turns = turns_for(4, 1, prime)
                for first in (0, 3, -100):
                    cells = tuple((first + gap * k, chance.randrange(prime)) for k in range(5))
                    told = [0] * 4
                    for at, value in cells:
                        rest = rest_of_x(at % turns, poly, prime)
                        told = [(a + value * b) % prime for a, b in zip(told, rest)]
                    self.same(row_remainder(cells, list(poly), turns, prime), told)
            self.same(row_remainder(((5, 1),), [1], 1, prime), [])
            self.same(row_remainder((), [1, 1], 1, prime), [0])

    def test_stretched(self):
        self.same(stretched([1, 2, 3], 1), [1, 2, 3])
        self.same(stretched([1, 0, 3], 3), [1, 0, 0, 0, 0, 0, 3])
        self.same(stretched([5], 4), [5])
