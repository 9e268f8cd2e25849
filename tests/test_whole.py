"""Promise 1 and the Guarantees, over the whole program: what one module tells is what the others tell of it."""

from random import Random

from nearadds import backward, errors, factors, farcells, keptsums, meets, programs, rings, rounds, rules, toldback
from nearadds import walls
from nearadds.desk import Desk
from nearadds.liverow import Live
from nearadds.reading import read_program, read_round, read_row, read_rule
from nearadds.texts import show_program, show_round, show_row, show_rule
from tests.cases import Case
from tests.worked import FAR, MODULI, left_modulo, power_of, some_program, some_round, some_row, some_rule

MOST = 10 ** 30


def live_rule(chance, m, least=-4, greatest=4):
    while True:
        rule = some_rule(chance, m, least, greatest)
        if all(left_modulo(rule, prime) for prime in MODULI[m]):
            return rule


class ReadBack(Case):
    """What texts tell of what the other modules return is read back as the very value."""

    def read_back(self, value, show, read):
        told = show(value)
        self.same(read(told), value)
        self.same(show(read(told)), told)

    def test_rules(self):
        chance = Random(1)
        for m in MODULI:
            one, other = some_rule(chance, m), live_rule(chance, m, -2, 2)
            program = (m, ((other[1], 9), (((1, m - 1),), 70)))
            for rule in (rules.plus(one, other), rules.behind(one, other), rules.power(other, 20), rules.still(m),
                         factors.of_factors(m, factors.factored(one)), programs.as_rule(program),
                         meets.root(rules.power(other, 3), 3)):
                self.read_back(rule, show_rule, read_rule)
            looks = (((0,) * 7, 0), (tuple(k % m for k in range(7)), 1))
            fitting = toldback.fitting(m, 3, looks)
            if fitting is not None:
                self.read_back(fitting, show_rule, read_rule)
                for _, rule in toldback.further_rules(m, 3, looks):
                    self.read_back(rule, show_rule, read_rule)

    def test_rows(self):
        chance = Random(2)
        for m in MODULI:
            rule, row = live_rule(chance, m), some_row(chance, m, 20, FAR - 200)
            behind = rules.step(rule, row)
            for told in (behind, rules.added(row, behind), backward.ahead(rule, behind),
                         backward.row_back(rule, behind, 1), Live(behind).row, (m, ())):
                self.read_back(told, show_row, read_row)

    def test_round_rows(self):
        chance = Random(3)
        for m in MODULI:
            rule, row = live_rule(chance, m), some_round(chance, m, 12)
            even = (m, ((-2, 1), (0, m - 1), (2, 1)))
            for told in (rules.round_step(rule, row), rounds.round_after((m, ((rule[1], MOST),)), row),
                         rounds.rounds_ahead(rule, rules.round_step(rule, row))[1], walls.unfolded(row, "nought"),
                         walls.walled_step(even, row, "mirror"), rounds.least_ahead(rule, row)[1],
                         walls.walled_after((m, ((even[1], MOST),)), row, "nought")):
                self.read_back(told, show_round, read_round)

    def test_programs(self):
        chance = Random(4)
        for m in MODULI:
            program, moving = some_program(chance, m), (m, ((((3, m - 1),), 10 ** 29), (((-1, 1),), 0)))
            for told in (programs.joined(program, moving), programs.power_of(program, 7), programs.undone(moving),
                         programs.power_of(moving, 10)):
                self.read_back(told, show_program, read_program)


class LiveAndOthers(Case):

    def test_far_and_steps_tell_what_farcells_tells(self):
        chance = Random(11)
        for m in MODULI:
            row, program = some_row(chance, m, 8), some_program(chance, m)
            live = Live(row)
            told = {place: live.far(program, place) for place in range(-60, 61)}
            self.same([told[place] for place in range(-10, 10)], farcells.cells(program, row, -10, 20))
            self.same([farcells.cell(program, row, place) for place in (-60, 60, 0)],
                      [told[-60], told[60], told[0]])
            for terms, often in program[1]:
                for _ in range(often):
                    live.step((m, terms))
            for place in range(-60, 61):
                self.same(live.cell(place), told[place])
            self.same(live.total(), farcells.row_total(program, row))
            ends = [live.row[1][0][0], live.row[1][-1][0]] if live.row[1] else [None, None]
            self.same([farcells.first_cell(program, row), farcells.last_cell(program, row)], ends)

    def test_back_tells_what_backward_tells(self):
        chance = Random(12)
        for m in MODULI:
            for _ in range(6):
                rule, row = live_rule(chance, m, -2, 2), some_row(chance, m, 8)
                often = chance.randint(0, 4)
                for _ in range(often):
                    row = rules.step(rule, row)
                live, told = Live(row), backward.steps_back(rule, row)
                self.assertTrue(told == "endless" or told >= often)
                many = 6 if told == "endless" else told
                for k in range(many):
                    self.same(backward.bar(rule, live.row), None)
                    live.back(rule)
                    self.same(live.row, backward.row_back(rule, row, k + 1))
                if told != "endless":
                    self.refused(errors.NoRow, live.row, live.back, rule)
                    self.same(backward.bars(rule, live.row, backward.bar(rule, live.row)), True)
                for _ in range(many):
                    live.step(rule)
                self.same(live.row, row)

    def test_sums_are_multiplied_by_a_step(self):
        chance = Random(13)
        for m in MODULI:
            tried = 0
            while tried < 6:
                rule, factor = some_rule(chance, m), chance.randrange(m)
                try:
                    many = keptsums.free_weights(rule, factor)
                except errors.InvalidRule:
                    continue
                tried += 1
                values = tuple(chance.randrange(m) for _ in range(many))
                live = Live(some_row(chance, m, 10, chance.choice([0, FAR - 500])))
                total = keptsums.weighted(rule, factor, values, live.row)
                for _ in range(3):
                    live.step(rule)
                    total = factor * total % m
                    self.same(keptsums.weighted(rule, factor, values, live.row), total)
                by_cells = sum(keptsums.weight(rule, factor, values, place) * value for place, value in live.row[1])
                self.same(by_cells % m, total)

    def test_laid_on_a_ring(self):
        chance = Random(14)
        for m in MODULI:
            for n in (1, 2, 7, 12, 60):
                row, program = some_row(chance, m, 8), some_program(chance, m)
                live = Live(row)
                for terms, often in program[1]:
                    for _ in range(often):
                        live.step((m, terms))
                self.same(self.laid(live.row, n), rounds.round_after(program, self.laid(row, n)))

    def laid(self, row, n):
        """A finite row on a ring of n cells: the values at places that fall together are added."""
        values = [0] * n
        for place, value in row[1]:
            values[place % n] += value
        return row[0], tuple(value % row[0] for value in values)

    def test_desk_and_live(self):
        chance = Random(15)
        for m in MODULI:
            row, rule, program = some_row(chance, m, 8), live_rule(chance, m, -2, 2), some_program(chance, m)
            live, desk = Live(row), Desk()
            desk.execute("row " + show_row(row))
            self.same(desk.execute("step " + show_rule(rule)), str(live.step(rule)))
            self.same(desk.execute("back " + show_rule(rule)), str(live.back(rule)))
            self.same(desk.execute("far 3 " + show_program(program)), str(live.far(program, 3)))
            self.same(read_row(desk.execute("show")), live.row)


class RingsAndOthers(Case):

    def test_what_is_lost(self):
        chance = Random(21)
        for m in MODULI:
            rule = some_rule(chance, m, many=4)
            for n in (1, 2, 3, 6, 8, 12, 20):
                told, row = rings.nought_dims(rule, n), (m, (0,) * n)
                number = 1
                for prime, dim in told:
                    number *= prime ** dim
                expected = ("many", number) if number > 1 else ("one",)
                ahead = rounds.rounds_ahead(rule, row)
                self.same((ahead[0],) + ahead[2:], expected)
                self.same(rings.loses(rule, n), number > 1)
                self.same(keptsums.ring_weights(rule, 0, n), told)
                self.same(rings.loses(rule, n), any(n % least == 0 for least in rings.losing(rule)))

    def test_rows_come_round_behind_the_longest_tail(self):
        chance = Random(22)
        for m in MODULI:
            rule = some_rule(chance, m, many=4)
            for n in (1, 2, 5, 9, 12):
                tail, turns = rings.longest_tail(rule, n), rings.ring_round(rule, n)
                for _ in range(3):
                    begin, length = rounds.comes_again(rule, some_round(chance, m, n))
                    self.assertTrue(begin <= tail and turns % length == 0)
                one = rounds.comes_again(rule, (m, (1,) + (0,) * (n - 1)))
                self.same(one, (tail, turns))

    def test_powers_that_fall_together_lose_alike(self):
        for m in MODULI:
            one, other = (m, ((-1, 1), (1, m - 1))), power_of((m, ((-1, 1), (1, m - 1))), 2)
            self.same(rings.losing(one), rings.losing(other))
            self.same(meets.meets(one, other), (2, 1))
            self.same(rings.first_unlike_ring(one, one), None)

    def test_between_walls_and_around(self):
        # What is lost between walls is lost on the ring of all cells that are meant, too.
        chance = Random(23)
        for m in MODULI:
            rule = (m, tuple((d, c) for d, c in ((-2, 1), (0, chance.randrange(m)), (2, 1)) if c))
            for kind in ("nought", "mirror"):
                for n in (1, 2, 3, 5, 8, 11, MOST - 1):
                    around = 2 * n if kind == "mirror" else 2 * n + 2
                    for one, other in zip(walls.walled_noughts(rule, kind, n), rings.nought_dims(rule, around)):
                        self.assertLessEqual(one[1], other[1])
                    self.assertLessEqual(walls.walled_tail(rule, kind, n), rings.longest_tail(rule, around))


class NothingIsKept(Case):

    def test_calls_one_behind_the_other(self):
        """What a call tells does not hang on those ahead of it, be they refused ones."""
        rule, row, program = (6, ((-1, 2), (1, 3))), (6, ((0, 1), (5, 4))), (6, ((((-1, 2), (1, 3)), 3),))
        calls = [(rings.losing, [rule]), (factors.factored, [rule]), (farcells.cells, [program, row, -3, 7]),
                 (rings.rounds_of, [rule, 4]), (keptsums.ring_weights, [rule, 1, 6]), (show_rule, [rule])]
        expected = [call(*passed) for call, passed in calls]
        for _ in range(2):
            for (call, passed), told in zip(calls, expected):
                self.same(call(*passed), told)
                with self.assertRaises(errors.NearError):
                    call(None, *passed[1:])
