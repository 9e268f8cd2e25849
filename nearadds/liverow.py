"""Live rows: finite rows that are worked on, deed by deed, each of which can be taken back."""

from nearadds.backward import ahead, need_live_rule
from nearadds.errors import InvalidNumber, NoPart, NoRow, Nothing
from nearadds.forms import renewed
from nearadds.rules import left_of, need_program, need_row, need_rule, need_same, row_behind, sums_of
from nearadds.spreads import values_left


def unlike_between(one, other):
    """The ascending list of the places at which two finite rows of one modulus have unlike values."""
    less = tuple([(place, -value) for place, value in other[1]])
    return [place for place, _ in left_of(sums_of(one[1], less), one[0])]


def cell_of(row, place):
    """The value at a place of a finite row."""
    return dict(row[1]).get(place, 0)


class Live:
    """A finite row of one modulus that is worked on."""

    def __init__(self, row):
        need_row(row)
        # The row behind each deed stands behind the first one; of an open part the number of deeds ahead of it is kept.
        self._rows = [row]
        self._deeds = []
        self._begins = []

    @property
    def row(self):
        """The finite row now."""
        return self._rows[-1]

    @property
    def first(self):
        """The finite row that this one was made of."""
        return self._rows[0]

    @property
    def modulus(self):
        """The modulus of the row."""
        return self._rows[0][0]

    @property
    def parts(self):
        """How many parts are open."""
        return len(self._begins)

    @property
    def story(self):
        """The tuple of all deeds that stand, as tuples of the word and what was passed."""
        return tuple(self._deeds)

    def __len__(self):
        return len(self._deeds)

    def __eq__(self, other):
        return isinstance(other, Live) and self.row == other.row

    def _done(self, deed, row):
        """Keeps a deed and the row behind it; returns how many places have another value than ahead of it."""
        many = len(unlike_between(self.row, row))
        self._rows.append(row)
        self._deeds.append(deed)
        return many

    def step(self, rule):
        """A step of a rule is done."""
        need_rule(rule)
        need_same(self.row, rule)
        return self._done(("step", rule), row_behind(rule, self.row))

    def back(self, rule):
        """The row becomes the one of which a step of a rule leaves it."""
        need_live_rule(rule)
        need_same(self.row, rule)
        row = ahead(rule, self.row)
        if row is None:
            raise NoRow(renewed(self.row))
        return self._done(("back", rule), row)

    def put(self, place, value):
        """A value is put at a place."""
        if not 0 <= value < self.modulus:
            raise InvalidNumber(value)
        less = value - cell_of(self.row, place)
        return self._done(("put", place, value), self._with_cells(((place, less),)))

    def add(self, row):
        """A finite row is added, cell by cell."""
        need_row(row)
        need_same(self.row, row)
        return self._done(("add", row), self._with_cells(row[1]))

    def move(self, by):
        """Each value comes to the place by further on."""
        return self._done(("move", by), (self.modulus, tuple([(place + by, value) for place, value in self.row[1]])))

    def _with_cells(self, cells):
        """The row with integers added at places."""
        return self.modulus, left_of(sums_of(self.row[1], cells), self.modulus)

    def undo(self):
        """The last deed of the innermost open part is taken back; returns its word."""
        ahead_of_it = self._begins[-1] if self._begins else 0
        if len(self._deeds) == ahead_of_it:
            raise Nothing(None)
        self._rows.pop()
        return self._deeds.pop()[0]

    def begin(self):
        """A part is opened."""
        self._begins.append(len(self._deeds))

    def keep(self):
        """The innermost open part is ended, and its deeds stay in what is around it."""
        self._ended()

    def drop(self):
        """The innermost open part is ended, and its deeds are taken back."""
        many = self._ended()
        self._deeds = self._deeds[:many]
        self._rows = self._rows[:many + 1]

    def _ended(self):
        """Ends the innermost open part; returns how many deeds stand ahead of it."""
        if not self._begins:
            raise NoPart(None)
        return self._begins.pop()

    def twin(self):
        """Another Live with the same first row and the same deeds, without parts."""
        other = Live(self.first)
        other._rows = list(self._rows)
        other._deeds = list(self._deeds)
        return other

    def cell(self, place):
        """The value at a place."""
        return cell_of(self.row, place)

    def count(self):
        """How many places have others than 0."""
        return len(self.row[1])

    def total(self):
        """The sum of all values, by the modulus."""
        return sum([value for _, value in self.row[1]]) % self.modulus

    def far(self, program, place):
        """The value at a place of what a program would leave of the row now."""
        need_program(program)
        need_same(self.row, program)
        return values_left(program, self.row[1], place, 1)[0]

    def unlike_places(self, other):
        """The ascending list of the places at which this row and that of another Live have unlike values."""
        need_same(self.row, other.row)
        return unlike_between(self.row, other.row)
