"""Promise 38: a desk that is told lines."""

import inspect
from random import Random

from nearadds.desk import Desk
from nearadds.errors import InvalidCommand, InvalidNumber, InvalidRule, NearError, NoPart, NoRow, NotReady, Nothing
from nearadds.errors import Unlike
from tests.cases import Case
from tests.doubles import Double, program_text, row_ahead, row_text, rule_text
from tests.worked import FAR, MODULI, far_value, left_modulo, odd_objects, some_program, some_row, some_rule

# What shows all that a desk's live row tells.
LOOKS = ["show", "count", "total", "cell 0", "cell 3"]


class OnDesk(Case):

    def line(self, desk, line, expected):
        told = desk.execute(line)
        self.same(told, expected)

    def looked(self, desk, double):
        row = double.row
        cells = dict(row[1])
        self.line(desk, "show", row_text(row))
        self.line(desk, "count", str(len(row[1])))
        self.line(desk, "total", str(sum(cells.values()) % row[0]))
        for place in (0, 3, -FAR):
            self.line(desk, f"cell {place}", str(cells.get(place, 0)))

    def refused_line(self, desk, kind, value, line):
        self.refused(kind, value, desk.execute, line)


class Interface(Case):

    def test_class(self):
        self.same((Desk.__module__, Desk.__name__), ("nearadds.desk", "Desk"))
        self.assertTrue(inspect.isfunction(vars(Desk)["execute"]))
        self.same(list(inspect.signature(Desk).parameters), [])
        self.same(list(inspect.signature(Desk.execute).parameters)[1:], ["line"])
        self.same(Desk().execute(line="row 2: -"), "ok")


class Commands(OnDesk):

    def test_each_command(self):
        desk = Desk()
        for line, expected in (
                ("row 7: 0=1 5=6", "ok"), ("show", "7: 0=1 5=6"), ("step 7: -1*1 1*1", "6"),
                ("show", "7: -1=1 1=1 4=6 6=6"), ("back 7: -1*1 1*1", "6"), ("add 7: 0=6 1=1", "2"), ("cell 1", "1"),
                ("put 1 3", "1"), ("put 1 3", "0"), ("move 10", "4"), ("show", "7: 11=3 15=6"), ("count", "2"),
                ("total", "2"), ("undo", "move"), ("undo", "put"), ("undo", "put"), ("undo", "add"), ("undo", "back"),
                ("undo", "step"), ("begin", "ok"), ("put -4 2", "1"), ("begin", "ok"), ("keep", "ok"), ("drop", "ok"),
                ("show", "7: 0=1 5=6"), ("far 1 7: -1*1 1*1 ^ 1", "1"), ("far 0 7: -", "1"), ("far 3 7: - ^ 1", "0"),
                (f"move {FAR}", "4"), (f"cell {FAR}", "1"), (f"move -{FAR}", "4"), ("show", "7: 0=1 5=6"),
                ("step 7: -", "2"), ("show", "7: -"), ("count", "0"), ("row 2: 3=1", "ok"), ("show", "2: 3=1")):
            self.line(desk, line, expected)

    def test_any_lines(self):
        chance = Random(1)
        for m in MODULI:
            for _ in range(4):
                row = some_row(chance, m, 6, 0, 9)
                desk, double = Desk(), Double(row)
                self.line(desk, "row " + row_text(row), "ok")
                for _ in range(20):
                    self.some_line(chance, desk, double)
                    self.looked(desk, double)

    def some_line(self, chance, desk, double):
        m, kind = double.row[0], chance.randrange(10)
        if kind < 2:
            rule = some_rule(chance, m, -2, 2)
            self.line(desk, "step " + rule_text(rule), str(double.step(rule)))
        elif kind == 2:
            rule = some_rule(chance, m, -1, 1)
            if not all(left_modulo(rule, prime) for prime in MODULI[m]):
                self.refused_line(desk, InvalidRule, rule, "back " + rule_text(rule))
            elif row_ahead(rule, double.row) is None:
                self.refused_line(desk, NoRow, double.row, "back " + rule_text(rule))
            else:
                self.line(desk, "back " + rule_text(rule), str(double.back(rule)))
        elif kind == 3:
            place, value = chance.randint(-9, 9), chance.randrange(m)
            self.line(desk, f"put {place} {value}", str(double.put(place, value)))
        elif kind == 4:
            row = some_row(chance, m, 5, 0, 9)
            self.line(desk, "add " + row_text(row), str(double.add(row)))
        elif kind == 5:
            by = chance.randint(-3, 3)
            self.line(desk, f"move {by}", str(double.move(by)))
        elif kind == 6 and double.can_undo():
            self.line(desk, "undo", double.undo())
        elif kind == 7:
            double.begin()
            self.line(desk, "begin", "ok")
        elif kind == 8 and double.begins:
            name = chance.choice(["keep", "drop"])
            getattr(double, name)()
            self.line(desk, name, "ok")
        else:
            program, place = some_program(chance, m), chance.randint(-9, 9)
            told = far_value(program, double.row, place)
            self.line(desk, f"far {place} {program_text(program)}", str(told))

    def test_a_second_row(self):
        desk = Desk()
        self.line(desk, "row 2: 0=1", "ok")
        self.line(desk, "put 5 1", "1")
        self.line(desk, "begin", "ok")
        self.line(desk, "row 3: 0=2", "ok")
        # The deeds and parts of the earlier one are gone.
        self.refused_line(desk, Nothing, None, "undo")
        self.refused_line(desk, NoPart, None, "keep")
        self.refused_line(desk, NoPart, None, "drop")
        self.line(desk, "show", "3: 0=2")
        self.line(desk, "row 3: 0=2", "ok")
        self.line(desk, "row 15: -", "ok")
        self.line(desk, "show", "15: -")

    def test_two_desks_side_by_side(self):
        one, other = Desk(), Desk()
        self.line(one, "row 2: 0=1", "ok")
        self.refused_line(other, NotReady, None, "show")
        self.line(other, "row 3: 1=1", "ok")
        self.line(one, "move 4", "2")
        self.line(one, "begin", "ok")
        self.refused_line(other, NoPart, None, "drop")
        self.refused_line(other, Nothing, None, "undo")
        self.line(other, "show", "3: 1=1")
        self.line(one, "show", "2: 4=1")

    def test_rows_and_programs_at_the_limits_and_beyond(self):
        desk = Desk()
        for m in MODULI:
            row = (m, tuple((FAR - 599 + k, 1 + k % (m - 1)) for k in range(600)))
            self.line(desk, "row " + row_text(row), "ok")
            self.line(desk, "show", row_text(row))
            rule = (m, ((-40, 1), (0, m - 1), (40, 1)))
            self.line(desk, "row " + row_text((m, row[1][:30])), "ok")
            self.line(desk, "step " + rule_text(rule), str(Double((m, row[1][:30])).step(rule)))
            self.line(desk, "undo", "step")
            program = (m, ((rule[1], 10 ** 30),) * 6)
            place = FAR - 240 * 10 ** 30 - 599
            self.line(desk, f"far {place} {program_text(program)}", str(far_value(program, (m, row[1][:30]), place)))


LINES = [
    "row 2: 0=1", "row 2: -", "step 2: -1*1 1*1", "back 2: 0*1", "add 2: 1=1", "put 0 1", "put -7 0", "move -3", "undo",
    "begin", "keep", "drop", "show", "cell 0", "count", "total", "far 0 2: -1*1 1*1 ^ 1", "far -2 2: -"]


def changed_lines(line):
    for at in range(len(line) + 1):
        for sign in " 0-x:=*1\n\t":
            yield line[:at] + sign + line[at:]
            yield line[:at] + sign + line[at + 1:]
        yield line[:at] + line[at + 1:]


def is_line(line):
    """Whether a text is a command, by regular expressions; the texts within are all of modulus 2 or none."""
    import re
    number = r"(0|-?[1-9][0-9]{0,59})"
    pairs = {"R": rf"{number}\*{number}", "C": f"{number}={number}"}
    terms, cells = [f"(-|{word}( {word})*)" for word in (pairs["R"], pairs["C"])]
    steps = rf"(-|{terms} \^ {number}(; {terms} \^ {number})*)"
    kinds = {
        f"(row|add) {number}: {cells}": "=", rf"(step|back) {number}: {terms}": "*", f"put {number} {number}": "",
        f"(move|cell) {number}": "", "(undo|begin|keep|drop|show|count|total)": "",
        f"far {number} {number}: {steps}": "*"}
    for form, sign in kinds.items():
        if re.fullmatch(form, line, re.ASCII):
            return not sign or fits(line, sign)
    return False


def fits(line, sign):
    """Whether the modulus, the sequence of the pairs and their values are what they should be."""
    head, body = line.split(": ")
    m = int(head.split(" ")[-1])
    if m not in MODULI:
        return False
    for step in body.split("; "):
        terms, *often = step.split(" ^ ")
        if often and not 0 <= int(often[0]) <= 10 ** 30:
            return False
        told = [tuple(map(int, word.split(sign))) for word in terms.split(" ")] if terms != "-" else []
        places = [place for place, _ in told]
        if places != sorted(set(places)) or not all(1 <= value < m for _, value in told):
            return False
    return True


class Lines(OnDesk):

    def ready(self):
        """A desk with a live row, with deeds and a part."""
        desk = Desk()
        for line in ("row 2: 0=1 2=1", "put 5 1", "begin", "move 1"):
            desk.execute(line)
        return desk

    def told(self, desk):
        return [desk.execute(look) for look in LOOKS]

    def test_lines_are_lines_ahead_of_a_row(self):
        for line in LINES:
            self.assertTrue(is_line(line))
            desk = Desk()
            if line.startswith("row"):
                self.line(desk, line, "ok")
            else:
                self.refused_line(desk, NotReady, None, line)
                self.refused_line(desk, NotReady, None, line)

    def test_one_sign_more_less_or_another_one(self):
        for line in LINES:
            for odd in sorted(set(changed_lines(line))):
                if is_line(odd):
                    if not odd.startswith("row"):
                        self.refused_line(Desk(), NotReady, None, odd)
                else:
                    self.refused_line(Desk(), InvalidCommand, odd, odd)

    def test_a_line_that_is_refused_changes_nothing(self):
        desk = self.ready()
        expected = self.told(desk)
        for line in LINES:
            for odd in sorted(set(changed_lines(line)))[::7]:
                if not is_line(odd):
                    self.refused_line(desk, InvalidCommand, odd, odd)
        self.same(self.told(desk), expected)
        self.same([desk.execute("undo"), desk.execute("keep"), desk.execute("undo")], ["move", "ok", "put"])

    def test_no_lines(self):
        desk = self.ready()
        expected = self.told(desk)
        for odd in ("", " ", "  ", "row", "row ", "step", "put", "put 0", "put 0 1 1", "put  0 1", "put 0  1", "put 0 1 ",
                    " put 0 1", "far", "far 0", "far 0 ", "far  0 2: -", "far 2: - 0", "cell", "cell ", "cell x",
                    "cell 1 2", "cell -0", "cell 00", "cell +1", "move", "move ", "move 1.0", "move 01", "undo ",
                    "undo 1", " undo", "Undo", "UNDO", "undos", "und", "begin begin", "show\n", "\nshow", "count\t",
                    "total total", "keep;drop", "row 2: 0=1\n", "row 2:0=1", "row 4: 0=1", "row 2: 0=2", "step 2: 0=1",
                    "add 2: 0*1", "row 2: 1 0", "step 2: 0*1 ^ 1", "far 0 2: 0*1", "exit", "help", "row row 2: -",
                    "put " + "9" * 61 + " 1", "move " + "1" + "0" * 60, "cell -" + "9" * 61, "put 0 " + "1" * 61,
                    "far " + "9" * 61 + " 2: -", "far 0 2: - ^ " + "1" + "0" * 31, "cell \u0661", "twin", "story"):
            self.refused_line(desk, InvalidCommand, odd, odd)
            self.refused_line(Desk(), InvalidCommand, odd, odd)
        for odd in odd_objects() + [["undo"], ("undo",), b"undo", {"undo": 1}, [["undo"], ([],)]]:
            self.refused_both(InvalidCommand, odd, desk.execute, ["line"], [odd])
            self.refused_both(InvalidCommand, odd, Desk().execute, ["line"], [odd])
        self.same(self.told(desk), expected)

    def test_sixty_figures(self):
        desk = self.ready()
        for figures in ("9" * 60, "-" + "9" * 60):
            self.line(desk, "put " + figures + " 1", "1")
            self.line(desk, "cell " + figures, "1")
            self.line(desk, "undo", "put")
            self.line(desk, f"far {figures} 2: -", "0")
            self.line(desk, "move " + figures, "6")
            self.line(desk, "undo", "move")

    def test_errors_of_what_is_done(self):
        desk = self.ready()
        expected = self.told(desk)
        for line, kind, value in (
                ("step 3: 0*1", Unlike, 3), ("back 3: 0*1", Unlike, 3), ("back 3: -", InvalidRule, (3, ())),
                ("back 2: -", InvalidRule, (2, ())), ("back 6: 0*2", InvalidRule, (6, ((0, 2),))),
                ("back 2: -1*1 1*1", NoRow, (2, ((1, 1), (3, 1), (6, 1)))), ("add 3: -", Unlike, 3),
                ("put 0 2", InvalidNumber, 2), ("put 0 -1", InvalidNumber, -1), ("put 1 " + "9" * 60, InvalidNumber, FAR),
                ("far 0 3: -", Unlike, 3)):
            self.refused_line(desk, kind, value, line)
            self.same(self.told(desk), expected)
        self.line(desk, "undo", "move")
        self.refused_line(desk, Nothing, None, "undo")
        self.line(desk, "drop", "ok")
        self.refused_line(desk, NoPart, None, "drop")
        self.refused_line(desk, NoPart, None, "keep")
        self.line(desk, "undo", "put")
        self.refused_line(desk, Nothing, None, "undo")
        self.line(desk, "show", "2: 0=1 2=1")

    def test_a_row_that_is_refused_leaves_the_earlier_one(self):
        desk = self.ready()
        expected = self.told(desk)
        for odd in ("row 2: 0=2", "row 2: 1=1 0=1", "row", "row 2: 0=1 "):
            self.refused_line(desk, InvalidCommand, odd, odd)
        self.same(self.told(desk), expected)

    def test_no_error_but_its_own(self):
        desk = self.ready()
        for line in LINES:
            for odd in sorted(set(changed_lines(line)))[::3]:
                try:
                    self.assertIs(type(desk.execute(odd)), str)
                except NearError:
                    pass
