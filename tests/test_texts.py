"""Promises 36 and 37: texts of rules, rows and programs, and what is read from them."""

import inspect
from random import Random

from nearadds import reading, texts
from nearadds.errors import InvalidProgram, InvalidRound, InvalidRow, InvalidRule, Unreadable
from nearadds.reading import read_program, read_round, read_row, read_rule
from nearadds.texts import show_program, show_round, show_row, show_rule
from tests.asked import KINDS
from tests.cases import Case
from tests.doubles import program_text, round_text, row_text, rule_text
from tests.worked import FAR, MODULI, odd_objects, some_program, some_round, some_row, some_rule, spoiled
from tests.worked import told_program, told_round, told_rule

ALL = {
    "rule": (show_rule, read_rule, rule_text, told_rule, InvalidRule),
    "row": (show_row, read_row, row_text, told_rule, InvalidRow),
    "round": (show_round, read_round, round_text, told_round, InvalidRound),
    "program": (show_program, read_program, program_text, told_program, InvalidProgram),
}
MOST = 10 ** 30


def some_values(chance, kind):
    """Values of a kind, of all moduli: ordinary ones, such without terms, cells and steps, and those at the limits."""
    for m in MODULI:
        if kind == "rule":
            yield from [(m, ())] + [some_rule(chance, m) for _ in range(8)]
            yield (m, tuple((d, 1 + (d + 40) % (m - 1)) for d in range(-40, 41)))
            yield (m, ((-FAR, 1), (FAR, m - 1)))
        if kind == "row":
            yield from [(m, ())] + [some_row(chance, m) for _ in range(8)]
            yield (m, tuple((FAR - 29 + k, 1 + k % (m - 1)) for k in range(30)))
            yield (m, tuple((-FAR + k, 1 + k % (m - 1)) for k in range(600)))
        if kind == "round":
            yield from [some_round(chance, m, many) for many in (1, 2, 3, 12, 60, 500)]
            yield from [(m, (0,)), (m, (m - 1,))]
        if kind == "program":
            yield from [some_program(chance, m, 6) for _ in range(8)]
            yield from [(m, ()), (m, (((), 0),)), (m, (((), MOST),) * 6), (m, ((((0, 1),), 0), ((), 1)))]
            yield (m, ((((-40, 1), (0, m - 1), (40, 1)), MOST),) * 60)
            yield (m, tuple((some_rule(chance, m)[1], MOST - k) for k in range(6)))


class Texts(Case):

    def test_interface(self):
        for module, names, parameter in ((texts, ["show_rule", "show_row", "show_round", "show_program"], None),
                                         (reading, ["read_rule", "read_row", "read_round", "read_program"], "text")):
            for name in names:
                call = getattr(module, name)
                self.same((call.__module__, call.__name__), (module.__name__, name))
                first = list(inspect.signature(call).parameters)
                self.same(first, [parameter or {"round": "row"}.get(name[5:], name[5:])])

    def test_shown_and_read_back(self):
        chance = Random(1)
        for kind, (show, read, told, _, _) in ALL.items():
            parameter = list(inspect.signature(show).parameters)[0]
            for value in some_values(chance, kind):
                self.answers(told(value), show, [parameter], [value])
                self.answers(value, read, ["text"], [told(value)])

    def test_known_texts(self):
        for value, text, show, read in (
                ((2, ((-1, 1), (1, 1))), "2: -1*1 1*1", show_rule, read_rule),
                ((15, ((-40, 14), (0, 7))), "15: -40*14 0*7", show_rule, read_rule),
                ((5, ()), "5: -", show_rule, read_rule), ((5, ()), "5: -", show_row, read_row),
                ((3, ((-5, 2), (0, 1))), "3: -5=2 0=1", show_row, read_row),
                ((2, (1, 0)), "2: 1 0", show_round, read_round), ((13, (12,)), "13: 12", show_round, read_round),
                ((2, ()), "2: -", show_program, read_program), ((2, (((), 0),)), "2: - ^ 0", show_program, read_program),
                ((2, ((((-1, 1), (1, 1)), 4), ((), 0))), "2: -1*1 1*1 ^ 4; - ^ 0", show_program, read_program)):
            self.same(show(value), text)
            self.same(read(text), value)

    def test_what_is_shown_is_a_text_and_what_is_read_no_list(self):
        self.assertIs(type(show_rule((2, ()))), str)
        for read, text in ((read_rule, "6: 0*5 3*1"), (read_row, "6: 0=5"), (read_program, "6: 0*5 ^ 2; - ^ 0")):
            self.assertIs(type(read(text)[1]), tuple)
            self.assertIs(type(read(text)[1][0]), tuple)

    def test_values_that_are_none(self):
        for kind, (show, _, _, fits, error) in ALL.items():
            parameter = list(inspect.signature(show).parameters)[0]
            for odd in KINDS[kind][2] + odd_objects():
                self.assertFalse(fits(odd))
                self.refused_both(error, odd, show, [parameter], [odd])

    def test_spoiled_values(self):
        for m in MODULI:
            for kind, good in (("rule", (m, ((-1, 1), (0, m - 1)))), ("row", (m, ((1 - FAR, 1), (0, m - 1)))),
                               ("round", (m, (0, m - 1, 1))), ("program", (m, ((((-1, 1), (0, m - 1)), 3), ((), 0))))):
                show, read, told, fits, error = ALL[kind]
                for odd in spoiled(good):
                    if fits(odd):
                        self.same(show(odd), told(odd))
                        self.same(read(told(odd)), odd)
                    else:
                        self.refused(error, odd, show, odd)


SIGNS = "0123456789-+*=^;: .,_'\n\t()x\u0663\u00b2"


def changed(text):
    """A text with one sign more, less or another one, and two signs exchanged."""
    for at in range(len(text) + 1):
        for sign in SIGNS:
            yield text[:at] + sign + text[at:]
            yield text[:at] + sign + text[at + 1:]
        yield text[:at] + text[at + 1:]
        yield text[:at] + text[at + 1:at + 2] + text[at:at + 1] + text[at + 2:]


def told_back(text, kind):
    """The value of which a text is told, found with regular expressions; None if there is none."""
    import re
    integer = r"(?:0|-?[1-9][0-9]{0,59})"
    pairs = {"rule": r"\*", "row": "=", "program": r"\*"}.get(kind)
    word = f"{integer}{pairs}{integer}"
    terms = f"(?:-|{word}(?: {word})*)"
    step = rf"{terms} \^ {integer}"
    body = {"rule": terms, "row": terms, "round": f"{integer}(?: {integer})*", "program": f"(?:-|{step}(?:; {step})*)"}
    if not re.fullmatch(f"{integer}: {body[kind]}", text, re.ASCII):
        return None
    head, rest = text.split(": ")
    sign = "=" if kind == "row" else "*"

    def read(told):
        return () if told == "-" else tuple(tuple(map(int, part.split(sign))) for part in told.split(" "))

    if kind == "round":
        inner = tuple(map(int, rest.split(" ")))
    elif kind == "program" and rest != "-":
        inner = tuple((read(part.split(" ^ ")[0]), int(part.split(" ^ ")[1])) for part in rest.split("; "))
    else:
        inner = read(rest)
    value = (int(head), inner)
    return value if ALL[kind][3](value) else None


class Reading(Case):

    def judged(self, kind, text):
        expected = told_back(text, kind)
        if expected is None:
            self.refused(Unreadable, text, ALL[kind][1], text)
        else:
            self.same(ALL[kind][1](text), expected)
        return expected is not None

    def test_one_sign_more_less_or_another_one(self):
        for kind, values in (("rule", ["2: -1*1 1*1", "15: -40*14 0*7 10*1", "5: -"]),
                             ("row", ["3: -5=2 0=1", "11: 10=10", "2: -"]), ("round", ["2: 1 0", "13: 12 0 7", "7: 0"]),
                             ("program", ["2: -1*1 1*1 ^ 4; - ^ 0", "6: -", "10: 3*9 ^ 10"])):
            for text in values:
                seen = set()
                for odd in changed(text):
                    seen.add(self.judged(kind, odd))
                self.assertEqual(seen, {True, False})

    def test_parts_exchanged_twice_or_left_out(self):
        for kind, text, sign in (("rule", "7: -4*1 -1*6 0*2 3*5", " "), ("row", "7: -4=1 -1=6 0=2 3=5", " "),
                                 ("round", "7: 1 6 0 2", " "), ("program", "7: -1*1 2*6 ^ 3; - ^ 0; 0*2 ^ 5", "; "),
                                 ("program", "7: -1*1 2*6 ^ 3; - ^ 0; 0*2 ^ 5", " ")):
            words = text.split(sign)
            for k in range(len(words)):
                self.judged(kind, sign.join(words[:k] + words[k + 1:]))
                self.judged(kind, sign.join(words[:k + 1] + words[k:]))
                for j in range(k):
                    other = list(words)
                    other[k], other[j] = words[j], words[k]
                    self.judged(kind, sign.join(other))

    def test_texts_of_the_other_kinds(self):
        told = ["2: -1*1 1*1", "3: -5=2 0=1", "2: 1 0", "2: -1*1 1*1 ^ 4; - ^ 0", "2: 1"]
        for kind in ALL:
            for text in told:
                self.judged(kind, text)

    def test_60_and_61_figures(self):
        for figures in ("9" * 59, "9" * 60, "1" + "0" * 59):
            for sign in ("", "-"):
                number = int(sign + figures)
                self.same(read_rule(f"2: {sign}{figures}*1"), (2, ((number, 1),)))
                self.same(read_row(f"2: {sign}{figures}=1"), (2, ((number, 1),)))
                self.same(read_program(f"2: {sign}{figures}*1 ^ 1"), (2, ((((number, 1),), 1),)))
        for figures in ("9" * 61, "1" + "0" * 60, "0" * 61, "9" * 5000):
            for sign in ("", "-"):
                for read, text in ((read_rule, f"2: {sign}{figures}*1"), (read_row, f"2: {sign}{figures}=1"),
                                   (read_row, f"2: 0={sign}{figures}"), (read_rule, f"{sign}{figures}: 0*1"),
                                   (read_round, f"2: 1 {sign}{figures}"), (read_round, f"{figures}: 1"),
                                   (read_program, f"2: {sign}{figures}*1 ^ 1"), (read_program, f"2: 0*1 ^ {figures}")):
                    self.refused_both(Unreadable, text, read, ["text"], [text])
        # A value that rules.py would take, whose text has too many figures.
        self.refused(Unreadable, show_rule((2, ((10 ** 60, 1),))), read_rule, show_rule((2, ((10 ** 60, 1),))))

    def test_times(self):
        self.same(read_program(f"2: 0*1 ^ {MOST}"), (2, ((((0, 1),), MOST),)))
        for times in (MOST + 1, -1, "00", "-0", "01", "+1", "1.0", "1e3", "", " 1", "1 "):
            self.refused(Unreadable, f"2: 0*1 ^ {times}", read_program, f"2: 0*1 ^ {times}")

    def test_what_show_does_not_write(self):
        for text in ("2: -0*1", "2: 00*1", "2: 01*1", "2: +1*1", "2: 1*01", "02: 1*1", "2 : 1*1", "2:1*1", "2:  1*1",
                     " 2: 1*1", "2: 1*1 ", "2: 1*1\n", "\n2: 1*1", "2: 1 *1", "2: 1* 1", "2: 1*1  2*1", "2: 1*1,2*1",
                     "2: ", "2:", "2", "", " ", ": ", ": -", "-", "2: -\n", "2: --", "2: - -", "2: 1*1 -", "2: - 1*1",
                     "2: 1*0", "2: 1*2", "2: 1*-1", "4: 1*1", "-2: 1*1", "1: -", "0: -", "2: 1*1 1*1", "2: 1*1 0*1",
                     "2: 1**1", "2: 1*1*1", "2: *1", "2: 1*", "2: *", "2: 1_0*1", "2: \u0661*1", "2: 1*\u0661",
                     "2: \uff11*1", "2: \u22121*1", "2: 1*1\t2*1", "2: 1*1\u00a02*1", "2: 1=1", "2: (1*1)", "2: 1*1;"):
            for kind in ("rule", "program"):
                self.refused(Unreadable, text, ALL[kind][1], text) if text != "2: -" else None
            other = text.replace("*", "=")
            if told_back(other, "row") is None:
                self.refused(Unreadable, other, read_row, other)
        for text in ("2: 1 0 ", "2: 1  0", "2: -", "2: ", "2: 1 -0", "2: 01", "2: 2", "2: -1", "2: 1,0", "2: 1 0\n"):
            self.refused(Unreadable, text, read_round, text)
        for text in ("2: 0*1 ^ 1;", "2: 0*1 ^ 1; ", "2: 0*1 ^1", "2: 0*1^ 1", "2: 0*1 ^ 1;0*1 ^ 1", "2: 0*1", "2: ^ 1",
                     "2:  ^ 1", "2: - ^ 1 ^ 1", "2: -; -", "2: - ^ 0; -", "2: -; - ^ 0", "2: 0*1 ^ 1 ; - ^ 0"):
            self.refused(Unreadable, text, read_program, text)

    def test_any_object(self):
        for odd in odd_objects() + [["2: -"], ("2: -",), b"2: -", {"2: -": 1}, [["2: 1"], ([],)]]:
            for _, read, _, _, _ in ALL.values():
                self.refused_both(Unreadable, odd, read, ["text"], [odd])

    def test_beyond_the_limits(self):
        wide = (2, tuple((d, 1) for d in range(-500, 500)))
        self.same(read_rule(rule_text(wide)), wide)
        self.same(read_row(row_text(wide)), wide)
        long = (13, tuple(k % 13 for k in range(3000)))
        self.same(read_round(round_text(long)), long)
        many = (3, ((((0, 2),), MOST),) * 200)
        self.same(read_program(program_text(many)), many)
