"""Rules, rows and programs read from their texts.

A text is taken apart loosely, and what comes of it is told again: so just the texts that texts.py tells are read.
"""

from nearadds.errors import Unreadable
from nearadds.forms import renewed
from nearadds.rules import is_program, is_round, is_row, is_rule
from nearadds.texts import NONE, show_program, show_round, show_row, show_rule

FIGURES = "0123456789"
MOST_FIGURES = 60


def number_in(word):
    """The integer of a word of figures, perhaps behind a -; None if it is none or has too many figures."""
    figures = word[1:] if word[:1] == "-" else word
    if not 1 <= len(figures) <= MOST_FIGURES or not all([sign in FIGURES for sign in figures]):
        return None
    return int(word)


def integer_in(text):
    """The integer that a text is, as texts.py writes integers; None if it is none."""
    number = number_in(text)
    return number if str(number) == text else None


def pairs_in(text, sign):
    """The tuple of the tuples of what stands in the words of a text, apart by a sign; () for no words."""
    if text == NONE:
        return ()
    return tuple([tuple([number_in(part) for part in word.split(sign)]) for word in text.split(" ")])


def halves(text, sign):
    """The tuple of what stands ahead of and behind the first such sign in a text."""
    before, _, after = text.partition(sign)
    return before, after


def rule_in(text):
    """The rule of which any object is the text; None if there is none."""
    if not isinstance(text, str):
        return None
    head, body = halves(text, ": ")
    rule = number_in(head), pairs_in(body, "*")
    return rule if is_rule(rule) and show_rule(rule) == text else None


def row_in(text):
    """The finite row of which any object is the text; None if there is none."""
    if not isinstance(text, str):
        return None
    head, body = halves(text, ": ")
    row = number_in(head), pairs_in(body, "=")
    return row if is_row(row) and show_row(row) == text else None


def round_in(text):
    """The round row of which any object is the text; None if there is none."""
    if not isinstance(text, str):
        return None
    head, body = halves(text, ": ")
    row = number_in(head), tuple([number_in(word) for word in body.split(" ")])
    return row if is_round(row) and show_round(row) == text else None


def program_in(text):
    """The program of which any object is the text; None if there is none."""
    if not isinstance(text, str):
        return None
    head, body = halves(text, ": ")
    steps = [halves(told, " ^ ") for told in body.split("; ")] if body != NONE else []
    program = number_in(head), tuple([(pairs_in(terms, "*"), number_in(times)) for terms, times in steps])
    return program if is_program(program) and show_program(program) == text else None


def read_rule(text):
    """The rule whose text this is."""
    rule = rule_in(text)
    if rule is None:
        raise Unreadable(renewed(text))
    return rule


def read_row(text):
    """The finite row whose text this is."""
    row = row_in(text)
    if row is None:
        raise Unreadable(renewed(text))
    return row


def read_round(text):
    """The round row whose text this is."""
    row = round_in(text)
    if row is None:
        raise Unreadable(renewed(text))
    return row


def read_program(text):
    """The program whose text this is."""
    program = program_in(text)
    if program is None:
        raise Unreadable(renewed(text))
    return program
