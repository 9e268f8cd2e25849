"""Rules, rows and programs as texts."""

from nearadds.rules import need_program, need_round, need_row, need_rule

NONE = "-"


def pairs_told(pairs, sign):
    """The text of a tuple of pairs, each with a sign between its integers."""
    return " ".join([f"{first}{sign}{second}" for first, second in pairs]) if pairs else NONE


def show_rule(rule):
    """The text of a rule."""
    need_rule(rule)
    return f"{rule[0]}: {pairs_told(rule[1], '*')}"


def show_row(row):
    """The text of a finite row."""
    need_row(row)
    return f"{row[0]}: {pairs_told(row[1], '=')}"


def show_round(row):
    """The text of a round row."""
    need_round(row)
    values = " ".join([str(value) for value in row[1]])
    return f"{row[0]}: {values}"


def show_program(program):
    """The text of a program."""
    need_program(program)
    steps = [f"{pairs_told(terms, '*')} ^ {times}" for terms, times in program[1]]
    told = "; ".join(steps) if steps else NONE
    return f"{program[0]}: {told}"
