"""Promise 35: live rows."""

import inspect
from random import Random

from nearadds import liverow
from nearadds.errors import InvalidNumber, InvalidProgram, InvalidRow, InvalidRule, NearError, NoPart, NoRow, Nothing
from nearadds.errors import Unlike
from nearadds.liverow import Live
from nearadds.rules import power
from tests.asked import KINDS, NO_RULES
from tests.cases import Case
from tests.doubles import Double, row_ahead, unlike
from tests.worked import FAR, MODULI, far_value, left_modulo, odd_objects, one_cell, program_behind, row_behind
from tests.worked import some_program, some_row, some_rule, sum_of, told_rule

DEEDS = {"step": "rule", "back": "rule", "put": "place value", "add": "row", "move": "by"}
METHODS = {
    **DEEDS, "undo": "", "begin": "", "keep": "", "drop": "", "twin": "", "cell": "place", "count": "", "total": "",
    "far": "program place", "unlike_places": "other"}
PROPERTIES = ["row", "first", "modulus", "parts", "story"]


def live_rule(chance, m, least=-4, greatest=4):
    """A rule that is nought modulo no prime."""
    while True:
        rule = some_rule(chance, m, least, greatest)
        if all(left_modulo(rule, prime) for prime in MODULI[m]):
            return rule


class Told(Case):

    def tells(self, live, double):
        """All that a live row tells is what the test has worked out itself."""
        row = double.row
        self.same(live.row, row)
        self.same(live.first, double.rows[0])
        self.same(live.modulus, row[0])
        self.same(live.parts, len(double.begins))
        self.same(live.story, tuple(double.story))
        self.same(len(live), len(double.story))
        self.same(live.count(), len(row[1]))
        self.same(live.total(), sum(value for _, value in row[1]) % row[0])
        cells = dict(row[1])
        for place in [at for at in cells][:3] + [-5, 0, 7, FAR, -FAR]:
            self.same(live.cell(place), cells.get(place, 0))
        if row[1]:
            self.same(live.cell(place=row[1][-1][0]), row[1][-1][1])

    def taken_back(self, live, double):
        """All deeds behind the beginning of the innermost part are taken back, one by one."""
        while double.can_undo():
            self.same(live.undo(), double.undo())
            self.tells(live, double)
        self.refused(Nothing, None, live.undo)
        self.tells(live, double)


class Interface(Case):

    def test_class(self):
        self.assertTrue(inspect.isclass(Live))
        self.same((Live.__module__, Live.__name__), ("nearadds.liverow", "Live"))
        self.same([name for name in inspect.signature(Live).parameters], ["row"])

    def test_each_method_stands_in_the_class_itself(self):
        for name, parameters in METHODS.items():
            self.assertTrue(inspect.isfunction(vars(Live)[name]))
            told = inspect.signature(getattr(Live, name)).parameters
            self.same(list(told)[1:], parameters.split())
            self.assertTrue(all(part.default is part.empty for part in told.values()))
        self.assertIn("__len__", vars(Live))
        self.assertIn("__eq__", vars(Live))

    def test_properties_from_the_creation_on(self):
        for m in MODULI:
            row = (m, ((-3, 1), (FAR, m - 1)))
            for live in (Live(row), Live(row=row)):
                self.same([live.row, live.first, live.modulus, live.parts, live.story, len(live)],
                          [row, row, m, 0, (), 0])
                for name in PROPERTIES:
                    self.assertTrue(hasattr(live, name))

    def test_no_property_is_set_from_without(self):
        live = Live((2, ((0, 1),)))
        for name in PROPERTIES:
            with self.assertRaises(AttributeError):
                setattr(live, name, None)
        self.same([live.row, live.first, live.parts], [(2, ((0, 1),)), (2, ((0, 1),)), 0])


class Deeds(Told):

    def some_deed(self, chance, live, double):
        """Some deed is done on both, by position or by name; what it returns is compared."""
        m, kind = double.row[0], chance.choice(["step", "step", "back", "put", "put", "add", "move"])
        cells = double.row[1]
        near = chance.choice(cells)[0] if cells and chance.randrange(3) else chance.randint(-20, 20)
        if kind == "step":
            passed = [some_rule(chance, m, -2, 2) if chance.randrange(2) else live_rule(chance, m, -1, 1)]
        elif kind == "back":
            passed = [self.rule_back(chance, live, double)]
            if passed[0] is None:
                return
        elif kind == "put":
            passed = [near, chance.choice([0, m - 1, chance.randrange(m), dict(cells).get(near, 0)])]
        elif kind == "add":
            passed = [some_row(chance, m, 6, near, 5)]
        else:
            passed = [chance.choice([0, 1, -1, chance.randint(-9, 9)])]
        call = getattr(live, kind)
        told = call(*passed) if chance.randrange(2) else call(**dict(zip(DEEDS[kind].split(), passed)))
        self.same(told, getattr(double, kind)(*passed))

    def rule_back(self, chance, live, double):
        """A rule by which the row can go back; None if the test found none, and the live row told so, too."""
        m = double.row[0]
        last = double.story[-1] if double.story else ("move", 0)
        if last[0] == "step" and all(left_modulo(last[1], prime) for prime in MODULI[m]):
            return last[1]
        rule = live_rule(chance, m, -1, 1)
        if row_ahead(rule, double.row) is not None:
            return rule
        self.refused(NoRow, double.row, live.back, rule)
        self.tells(live, double)
        return None

    def test_deeds_in_any_sequence(self):
        chance = Random(1)
        for m in MODULI:
            for _ in range(8):
                row = some_row(chance, m, 8, 0, 12)
                live, double = Live(row), Double(row)
                for _ in range(chance.choice([5, 12, 20])):
                    turn = chance.randrange(12)
                    if turn < 7:
                        self.some_deed(chance, live, double)
                    elif turn < 9 and double.can_undo():
                        self.same(live.undo(), double.undo())
                    elif turn == 9:
                        self.same(live.begin(), double.begin())
                    elif double.begins:
                        name = chance.choice(["keep", "drop"])
                        self.same(getattr(live, name)(), getattr(double, name)())
                    self.tells(live, double)
                while double.begins:
                    self.taken_back(live, double)
                    double.keep()
                    self.same(live.keep(), None)
                self.taken_back(live, double)
                self.same(live.row, row)

    def test_thirty_deeds_and_several_hundred_cells(self):
        chance = Random(2)
        for m in MODULI:
            row = (m, tuple((40 * k, 1 + k % (m - 1)) for k in range(30)))
            rule = (m, ((-4, 1), (-1, m - 1), (0, 1), (4, 1)))
            live, double, counts = Live(row), Double(row), []
            for k in range(30):
                if k % 6 == 5:
                    self.same(live.add(row), double.add(row))
                else:
                    self.same(live.step(rule), double.step(rule))
                counts.append(live.count())
            self.tells(live, double)
            self.assertGreater(max(counts), 600)
            self.same(live.move(FAR), double.move(FAR))
            self.same(live.undo(), double.undo())
            self.same(live.undo(), double.undo())
            wide = some_rule(chance, m, many=9)
            self.same(live.step(wide), double.step(wide))
            self.taken_back(live, double)

    def test_steps_by_what_rules_returned(self):
        # Rules with offsets to 40 are passed in programs only; to a step of a Live those to 4.
        for m in MODULI:
            rule = power((m, ((-1, 1), (1, m - 1))), 4)
            live, double = Live(one_cell(m)), Double(one_cell(m))
            self.same(live.step(rule), double.step(rule))
            self.same(live.back(rule), double.back(rule))
            self.tells(live, double)

    def test_deeds_that_change_nothing_are_deeds(self):
        for m in MODULI:
            for row in ((m, ()), (m, ((-2, 1), (3, m - 1)))):
                live, double = Live(row), Double(row)
                for name, passed in (("step", [(m, ((0, 1),))]), ("back", [(m, ((0, 1),))]), ("put", [1, 0]),
                                     ("put", [3, dict(row[1]).get(3, 0)]), ("add", [(m, ())]), ("move", [0])):
                    self.same(getattr(live, name)(*passed), 0)
                    getattr(double, name)(*passed)
                    self.tells(live, double)
                self.same(len(live), 6)
                self.taken_back(live, double)

    def test_a_row_without_cells(self):
        for m in MODULI:
            row = (m, ())
            live, double = Live(row), Double(row)
            rule = (m, ((-4, 1), (4, m - 1)))
            for name, passed in (("step", [rule]), ("step", [(m, ())]), ("back", [rule]), ("move", [FAR]),
                                 ("put", [-FAR, m - 1]), ("put", [-FAR, 0]), ("move", [-FAR]), ("add", [(m, ())])):
                self.same(getattr(live, name)(*passed), getattr(double, name)(*passed))
                self.tells(live, double)
            self.same([live.count(), live.total(), live.cell(0), live.far((m, ()), 0)], [0, 0, 0, 0])
            self.taken_back(live, double)

    def test_steps_that_make_all_0(self):
        for m, primes in MODULI.items():
            row = (m, ((-1, 1), (0, m - 1), (9, 1)))
            live, double = Live(row), Double(row)
            self.same(live.step((m, ())), 3)
            double.step((m, ()))
            self.tells(live, double)
            self.same(live.step((m, ())), 0)
            double.step((m, ()))
            self.taken_back(live, double)
            for prime in primes:
                if prime < m:
                    # Modulo one prime alone nothing is left.
                    rule = (m, ((0, prime),))
                    self.same(live.step(rule), double.step(rule))
                    self.tells(live, double)

    def test_values_put(self):
        for m in MODULI:
            for place in (0, -7, FAR, -FAR):
                live, double = Live((m, ())), Double((m, ()))
                for value in list(range(m)) + [0, m - 1, m - 1, 0, 0]:
                    self.same(live.put(place, value), double.put(place, value))
                    self.same(live.cell(place), value)
                self.tells(live, double)
                for bad in (-1, m, m + 1, -m, FAR, -FAR):
                    self.refused_both(InvalidNumber, bad, live.put, ["place", "value"], [place, bad])
                    self.tells(live, double)

    def test_moves_by_sixty_figures(self):
        for m in MODULI:
            row = (m, ((-FAR, 1), (0, m - 1), (FAR, 1)))
            live, double = Live(row), Double(row)
            for by in (FAR, -FAR, 0, 1, -10 ** 59, FAR, FAR):
                self.same(live.move(by=by), double.move(by))
                self.tells(live, double)
            self.same(live.unlike_places(Live(row)), unlike(double.row, row))
            self.taken_back(live, double)

    def test_move_counts_places_of_both(self):
        live = Live((3, ((0, 1), (1, 1), (2, 2))))
        self.same(live.move(1), 3)
        self.same(live.move(10), 6)


class Back(Told):

    def test_rows_of_which_one_is_known_to_stand_ahead(self):
        chance = Random(11)
        for m in MODULI:
            for near in (0, 10 ** 59, 200 - FAR):
                for _ in range(6):
                    rule, first = live_rule(chance, m), some_row(chance, m, 12, near, 60)
                    live, double = Live(row_behind(rule, first)), Double(row_behind(rule, first))
                    self.same(live.back(rule), len(unlike(first, double.row)))
                    self.same(live.row, first)
                    double.back(rule)
                    self.tells(live, double)
                    self.same(live.step(rule), double.step(rule))
                    self.taken_back(live, double)

    def test_rows_of_which_none_does(self):
        chance = Random(12)
        for m in MODULI:
            for _ in range(8):
                rule, one = live_rule(chance, m), some_row(chance, m, 8)
                if all(len(left_modulo(rule, prime)) > 1 for prime in MODULI[m]):
                    # A row of which one stands ahead and one cell more: that cell alone has none ahead of it.
                    row = sum_of(row_behind(rule, one), (m, ((chance.randint(-9, 9), 1),)))
                    live, double = Live(row), Double(row)
                    double.put(500, 1)
                    live.put(500, 1)
                    live.undo()
                    double.undo()
                    self.refused_both(NoRow, row, live.back, ["rule"], [rule])
                    self.tells(live, double)

    def test_the_longest_rows(self):
        for m in MODULI:
            rule = (m, ((-4, 1), (1, m - 1), (4, 1)))
            first = (m, tuple((14 * k - 200, 1 + k % (m - 1)) for k in range(28)))
            live = Live(first)
            live.step(rule)
            self.same(live.row[1][-1][0] - live.row[1][0][0] < 400, True)
            live.back(rule)
            self.same(live.row, first)
            self.refused(NoRow, first, live.back, rule)

    def test_undone(self):
        rule, row = (2, ((-1, 1), (1, 1))), (2, ((0, 1), (2, 1)))
        live = Live(row)
        self.same([live.back(rule), live.row, live.story], [3, (2, ((1, 1),)), (("back", rule),)])
        self.same([live.undo(), live.row, live.story, len(live)], ["back", row, (), 0])

    def test_rules_nought_modulo_some_prime(self):
        for m, primes in MODULI.items():
            live, double = Live((m, ((0, 1),))), Double((m, ((0, 1),)))
            for rule in [(m, ())] + [(m, ((1, prime),)) for prime in primes if prime < m]:
                self.refused_both(InvalidRule, rule, live.back, ["rule"], [rule])
            for other in MODULI:
                if other != m:
                    # Ahead of Unlike.
                    self.refused_both(InvalidRule, (other, ()), live.back, ["rule"], [(other, ())])
                    for prime in MODULI[other]:
                        if prime < other:
                            bad = (other, ((0, prime), (3, prime)))
                            self.refused_both(InvalidRule, bad, live.back, ["rule"], [bad])
                    self.refused_both(Unlike, other, live.back, ["rule"], [(other, ((0, 1),))])
            self.tells(live, double)


class Parts(Told):

    def test_nothing_to_take_back(self):
        for m in MODULI:
            live, double = Live((m, ((0, 1),))), Double((m, ((0, 1),)))
            self.refused(Nothing, None, live.undo)
            live.move(1)
            double.move(1)
            live.begin()
            double.begin()
            # The deed stands ahead of the beginning.
            self.refused(Nothing, None, live.undo)
            self.tells(live, double)
            live.keep()
            double.keep()
            self.taken_back(live, double)

    def test_kept_within(self):
        live = Live((2, ((0, 1),)))
        live.begin()
        live.put(1, 1)
        live.begin()
        live.put(2, 1)
        live.put(3, 1)
        self.same([live.keep(), live.parts, len(live)], [None, 1, 3])
        # Those of the part within that was kept are taken back one by one.
        self.same([live.undo(), live.undo(), live.undo()], ["put", "put", "put"])
        self.refused(Nothing, None, live.undo)
        self.same([live.parts, live.story], [1, ()])

    def test_undo_where_a_kept_part_began(self):
        live = Live((3, ()))
        live.put(0, 1)
        live.begin()
        live.keep()
        self.same([live.undo(), len(live)], ["put", 0])
        live.begin()
        live.put(1, 1)
        live.keep()
        self.same([live.undo(), len(live)], ["put", 0])
        self.refused(Nothing, None, live.undo)

    def test_dropped_with_what_was_kept_within(self):
        live = Live((5, ((0, 1),)))
        live.move(1)
        live.begin()
        live.put(4, 4)
        live.begin()
        live.move(9)
        live.keep()
        live.put(5, 1)
        self.same([live.drop(), live.parts, live.row, live.story], [None, 0, (5, ((1, 1),)), (("move", 1),)])

    def test_parts_in_parts(self):
        live, double = Live((7, ())), Double((7, ()))
        for k in range(5):
            for one in (live, double):
                one.begin()
                one.put(k, k + 1)
        self.tells(live, double)
        for name in ("keep", "drop", "keep", "keep", "drop"):
            self.same(getattr(live, name)(), None)
            getattr(double, name)()
            self.tells(live, double)
        self.same(live.row, (7, ()))

    def test_parts_without_deeds(self):
        for name in ("keep", "drop"):
            live, double = Live((6, ((1, 5),))), Double((6, ((1, 5),)))
            for one in (live, double):
                one.move(2)
                one.begin()
                one.begin()
            getattr(live, name)()
            getattr(double, name)()
            self.tells(live, double)
            getattr(live, name)()
            getattr(double, name)()
            self.tells(live, double)
            self.same(live.undo(), "move")

    def test_no_part(self):
        for m in MODULI:
            live, double = Live((m, ((0, 1),))), Double((m, ((0, 1),)))
            for _ in range(2):
                self.refused(NoPart, None, live.keep)
                self.refused(NoPart, None, live.drop)
                self.tells(live, double)
                live.begin()
                live.move(3)
                live.keep()
                double.move(3)
            self.tells(live, double)

    def test_part_that_begins_behind_an_undone_deed(self):
        live = Live((2, ()))
        live.put(0, 1)
        live.undo()
        live.begin()
        live.put(1, 1)
        live.undo()
        self.refused(Nothing, None, live.undo)
        live.put(2, 1)
        live.drop()
        self.same([live.row, live.story, live.parts], [(2, ()), (), 0])


class Twins(Told):

    def test_twins(self):
        chance = Random(31)
        for m in MODULI:
            row = some_row(chance, m, 6)
            live, double = Live(row), Double(row)
            deeds = [("put", [3, 1]), ("step", [(m, ((-1, 1), (1, 1)))]), ("move", [5])]
            for name, passed in deeds:
                getattr(live, name)(*passed)
                getattr(double, name)(*passed)
                live.begin()
                double.begin()
            twin, other = live.twin(), double.twin()
            self.tells(twin, other)
            self.same(twin.parts, 0)
            self.same(twin == live, True)
            # What is done to the one does not change the other.
            live.put(100, 1)
            double.put(100, 1)
            live.drop()
            double.drop()
            self.tells(twin, other)
            self.tells(live, double)
            twin.move(1)
            other.move(1)
            third, further = twin.twin(), other.twin()
            self.taken_back(twin, other)
            self.tells(third, further)
            third.begin()
            further.begin()
            third.put(0, m - 1)
            further.put(0, m - 1)
            self.tells(twin, other)
            self.tells(third, further)
            self.tells(live, double)
            third.drop()
            further.drop()
            self.taken_back(third, further)

    def test_a_twin_of_one_without_deeds(self):
        live = Live((2, ((0, 1),)))
        live.begin()
        twin = live.twin()
        self.tells(twin, Double((2, ((0, 1),))))
        self.refused(Nothing, None, twin.undo)
        self.refused(NoPart, None, twin.keep)
        self.assertIsInstance(twin, Live)


class Compared(Told):

    def test_equal(self):
        for m in MODULI:
            row = (m, ((0, 1), (4, m - 1)))
            one, other = Live(row), Live((m, ()))
            self.same([one == other, one != other, other == one], [False, True, False])
            other.put(4, m - 1)
            other.put(0, 1)
            # Unlike deeds, an equal row.
            self.same([one == other, one != other, other == one], [True, False, True])
            other.begin()
            self.same(one == other, True)
            other.put(9, 1)
            self.same(one == other, False)
            self.same(one == one, True)
            for further in MODULI:
                if further != m:
                    self.same([Live((m, ())) == Live((further, ())), Live((m, ())) != Live((further, ()))],
                              [False, True])

    def test_other_objects(self):
        live = Live((2, ((0, 1),)))
        for odd in [odd for odd in odd_objects() if not hasattr(odd, "__eq__") or type(odd).__name__ != "Odd"]:
            self.same([live == odd, live != odd], [False, True])
        self.same([live == (2, ((0, 1),)), live == live.row, live == None], [False, False, False])  # noqa: E711
        self.same(live in [None, (2, ((0, 1),)), Live((2, ((0, 1),)))], True)

    def test_unlike_places(self):
        chance = Random(41)
        for m in MODULI:
            for near in (0, FAR - 30):
                for _ in range(6):
                    one, other = some_row(chance, m, 20, near), some_row(chance, m, 20, near)
                    first, second = Live(one), Live(other)
                    self.same(first.unlike_places(second), unlike(one, other))
                    self.same(second.unlike_places(other=first), unlike(one, other))
                    self.same(first.unlike_places(first), [])
                    told = first.unlike_places(second)
                    told.append(None)
                    self.same(first.unlike_places(second), unlike(one, other))
            self.same(Live((m, ((0, 1),))).unlike_places(Live((m, ()))), [0])
            for other in MODULI:
                if other != m:
                    for row in ((other, ()), (other, ((0, 1),))):
                        first, second = Live((m, ((0, 1),))), Live(row)
                        with self.assertRaises(Unlike) as caught:
                            first.unlike_places(second)
                        self.same(caught.exception.value, other)
                        with self.assertRaises(Unlike) as caught:
                            second.unlike_places(other=first)
                        self.same(caught.exception.value, m)


class Far(Told):

    def test_against_stepping(self):
        chance = Random(51)
        for m in MODULI:
            for _ in range(5):
                row = some_row(chance, m, 6, 0, 10)
                live, double = Live(row), Double(row)
                for name, passed in (("step", [some_rule(chance, m, -1, 1)]), ("put", [2, 1]), ("move", [-3])):
                    getattr(live, name)(*passed)
                    getattr(double, name)(*passed)
                program = some_program(chance, m)
                cells = dict(program_behind(program, double.row)[1])
                for place in range(-14, 12):
                    self.same(live.far(program, place), cells.get(place, 0))
                self.same(live.far(program=program, place=5), cells.get(5, 0))
                self.tells(live, double)

    def test_far_on(self):
        chance = Random(52)
        for m in MODULI:
            row = some_row(chance, m, 10, 0, 40)
            live, double = Live(row), Double(row)
            live.step((m, ((-1, 1), (2, m - 1))))
            double.step((m, ((-1, 1), (2, m - 1))))
            program = (m, ((((-2, 1), (0, 1), (1, m - 1)), 10 ** 30 - chance.randint(0, 9)), (((3, 1),), 10 ** 29)))
            for place in (-10 ** 30, 10 ** 30, -4 * 10 ** 29 + 7, 2 * 10 ** 30 - 3 * 10 ** 29, -FAR, FAR):
                self.same(live.far(program, place), far_value(program, double.row, place))

    def test_of_long_rows(self):
        for m in MODULI:
            row = (m, tuple((40 * k, 1 + k % (m - 1)) for k in range(30)))
            live, double = Live(row), Double(row)
            for _ in range(6):
                live.step((m, ((-4, 1), (-1, m - 1), (0, 1), (4, 1))))
                double.step((m, ((-4, 1), (-1, m - 1), (0, 1), (4, 1))))
            self.assertGreater(live.count(), 200)
            program = (m, ((((-1, 1), (1, 1)), 10 ** 30),))
            for place in (10 ** 30, 600 - 10 ** 30, 513, 2 ** 95):
                self.same(live.far(program, place), far_value(program, double.row, place))
            self.tells(live, double)

    def test_refused(self):
        live, double = Live((6, ((0, 1),))), Double((6, ((0, 1),)))
        for odd in KINDS["program"][2]:
            self.refused_both(InvalidProgram, odd, live.far, ["program", "place"], [odd, 5])
        for m in MODULI:
            if m != 6:
                for program in ((m, ()), (m, ((((0, 1),), 3),))):
                    self.refused_both(Unlike, m, live.far, ["program", "place"], [program, 5])
        self.tells(live, double)


class Refused(Told):

    def lives(self):
        """A live row with deeds and open parts, and what it should tell."""
        live, double = Live((6, ((0, 1), (5, 4)))), Double((6, ((0, 1), (5, 4))))
        for one in (live, double):
            one.step((6, ((-1, 2), (1, 3))))
            one.begin()
            one.put(7, 5)
            one.begin()
        return live, double

    def test_rows_to_begin_with(self):
        for odd in odd_objects() + KINDS["row"][2]:
            self.refused_both(InvalidRow, odd, Live, ["row"], [odd])

    def test_rules_and_rows(self):
        live, double = self.lives()
        for odd in odd_objects() + NO_RULES:
            self.refused(InvalidRule, odd, live.step, odd)
            self.refused(InvalidRule, odd, live.back, odd)
        for odd in NO_RULES:
            self.refused_both(InvalidRule, odd, live.step, ["rule"], [odd])
            self.refused_both(InvalidRule, odd, live.back, ["rule"], [odd])
        for odd in odd_objects() + KINDS["row"][2]:
            self.refused_both(InvalidRow, odd, live.add, ["row"], [odd])
        for odd in odd_objects():
            self.refused(InvalidProgram, odd, live.far, odd, 0)
        self.assertFalse([odd for odd in odd_objects() if told_rule(odd)])
        self.tells(live, double)
        self.taken_back(live, double)

    def test_unlike(self):
        live, double = self.lives()
        for m in MODULI:
            if m != 6:
                for part in ((m, ()), (m, ((0, 1),))):
                    self.refused_both(Unlike, m, live.step, ["rule"], [part])
                    self.refused_both(Unlike, m, live.add, ["row"], [part])
                self.refused_both(Unlike, m, live.back, ["rule"], [(m, ((0, 1),))])
        self.tells(live, double)

    def test_what_was_passed_is_not_changed(self):
        for m in MODULI:
            rule, row = (m, ((-1, 1), (1, m - 1))), (m, ((0, 1),))
            live = Live(row)
            live.step(rule)
            live.add(row)
            live.undo()
            self.same([rule, row], [(m, ((-1, 1), (1, m - 1))), (m, ((0, 1),))])

    def test_what_is_handed_out_cannot_change_the_row(self):
        live, double = self.lives()
        for told in (live.row, live.first, live.story):
            self.assertIs(type(told), tuple)
            self.assertEqual([part for part in self.inner(told) if type(part) not in (tuple, int, str)], [])
        live.unlike_places(Live((6, ()))).clear()
        self.tells(live, double)

    def inner(self, value):
        if type(value) is tuple:
            return [part for other in value for part in self.inner(other)] + [value]
        return [value]

    def test_refused_objects_are_not_kept(self):
        live, double = self.lives()
        odd = [6, [(0, 1)]]
        for call in (live.step, live.back, live.add):
            try:
                call(odd)
            except NearError as error:
                told = error.value
            odd[1].append(None)
            self.same(told, [6, odd[1][:-1]])
            odd[1].pop()
        self.tells(live, double)

    def test_nothing_else_is_told_by_the_file(self):
        self.same(liverow.Live is Live, True)
