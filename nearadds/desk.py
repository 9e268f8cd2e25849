"""A desk: a live row that is worked on by lines of text."""

from nearadds.errors import InvalidCommand, NotReady
from nearadds.forms import renewed
from nearadds.liverow import Live
from nearadds.reading import halves, integer_in, program_in, row_in, rule_in
from nearadds.texts import show_row

ALONE = ("undo", "begin", "keep", "drop", "show", "count", "total")


def told_by(line):
    """The tuple of the word of a command and of what it is told; None for any object that is no command."""
    if not isinstance(line, str):
        return None
    if line in ALONE:
        return (line,)
    word, rest = halves(line, " ")
    told = arguments_in(word, rest)
    if not told or any([part is None for part in told]):
        return None
    return (word, *told)


def arguments_in(word, rest):
    """The list of what a command is told behind its word, None for each part that is none; [] for another word."""
    if word in ("step", "back"):
        return [rule_in(rest)]
    if word in ("row", "add"):
        return [row_in(rest)]
    if word in ("move", "cell"):
        return [integer_in(rest)]
    place, more = halves(rest, " ")
    if word == "put":
        return [integer_in(place), integer_in(more)]
    if word == "far":
        return [integer_in(place), program_in(more)]
    return []


def number_of_deed(live, told):
    """How many places a deed changes, which is done; None for another command."""
    word = told[0]
    if word == "step":
        return live.step(told[1])
    if word == "back":
        return live.back(told[1])
    if word == "add":
        return live.add(told[1])
    if word == "put":
        return live.put(told[1], told[2])
    if word == "move":
        return live.move(told[1])
    return None


def number_asked(live, told):
    """The number that is asked for; None for another command."""
    word = told[0]
    if word == "cell":
        return live.cell(told[1])
    if word == "count":
        return live.count()
    if word == "total":
        return live.total()
    if word == "far":
        return live.far(told[2], told[1])
    return None


def word_of(live, word):
    """The text of a command that answers no number."""
    if word == "undo":
        return live.undo()
    if word == "show":
        return show_row(live.row)
    if word == "begin":
        live.begin()
    if word == "keep":
        live.keep()
    if word == "drop":
        live.drop()
    return "ok"


class Desk:
    """A desk with no live row, until a line lays one there."""

    def __init__(self):
        self._live = None

    def execute(self, line):
        """Does what a line says; returns its text."""
        told = told_by(line)
        if told is None:
            raise InvalidCommand(renewed(line))
        if told[0] == "row":
            self._live = Live(told[1])
            return "ok"
        if self._live is None:
            raise NotReady(None)
        number = number_of_deed(self._live, told)
        if number is None:
            number = number_asked(self._live, told)
        return word_of(self._live, told[0]) if number is None else str(number)
