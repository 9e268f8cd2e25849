"""Live rows that the tests work on themselves, cell by cell."""

from tests.worked import MODULI, by_remainders, left_modulo, row_behind, sum_of


def row_ahead(rule, row):
    """The finite row of which a step leaves this one; None if there is none: cells are taken off from the least on.

    The rule is nought modulo no prime.
    """
    parts = []
    for prime in MODULI[rule[0]]:
        terms, cells = left_modulo(rule, prime), dict(left_modulo(row, prime))
        offset, factor = terms[-1]
        found, share = {}, pow(factor, -1, prime)
        last = max(cells, default=0) - (terms[-1][0] - terms[0][0])
        while cells:
            place = min(cells)
            if place > last:
                return None
            value = cells[place] * share % prime
            found[place + offset] = value
            for d, c in terms:
                at = place + offset - d
                cells[at] = (cells.get(at, 0) - value * c) % prime
                if not cells[at]:
                    del cells[at]
        parts.append(found)
    places = sorted({place for part in parts for place in part})
    return row[0], tuple((at, by_remainders(row[0], [part.get(at, 0) for part in parts])) for at in places)


def unlike(one, other):
    first, second = dict(one[1]), dict(other[1])
    return [at for at in sorted(set(first) | set(second)) if first.get(at, 0) != second.get(at, 0)]


class Double:
    """What a Live should tell: the deeds that stand, the row behind each, and where open parts begin."""

    def __init__(self, row):
        self.rows, self.story, self.begins = [row], [], []

    @property
    def row(self):
        return self.rows[-1]

    def do(self, deed, row):
        changed = len(unlike(self.row, row))
        self.rows.append(row)
        self.story.append(deed)
        return changed

    def step(self, rule):
        return self.do(("step", rule), row_behind(rule, self.row))

    def back(self, rule):
        return self.do(("back", rule), row_ahead(rule, self.row))

    def put(self, place, value):
        cells = dict(self.row[1])
        cells.pop(place, None)
        if value:
            cells[place] = value
        return self.do(("put", place, value), (self.row[0], tuple(sorted(cells.items()))))

    def add(self, row):
        return self.do(("add", row), sum_of(self.row, row))

    def move(self, by):
        return self.do(("move", by), (self.row[0], tuple((place + by, value) for place, value in self.row[1])))

    def can_undo(self):
        return len(self.story) > (self.begins[-1] if self.begins else 0)

    def undo(self):
        self.rows.pop()
        return self.story.pop()[0]

    def begin(self):
        self.begins.append(len(self.story))

    def keep(self):
        self.begins.pop()

    def drop(self):
        begin = self.begins.pop()
        del self.story[begin:]
        del self.rows[begin + 1:]

    def twin(self):
        other = Double(self.rows[0])
        other.rows, other.story = list(self.rows), list(self.story)
        return other


def text_of(pairs, sign):
    return " ".join(str(a) + sign + str(b) for a, b in pairs) if pairs else "-"


def rule_text(rule):
    return str(rule[0]) + ": " + text_of(rule[1], "*")


def row_text(row):
    return str(row[0]) + ": " + text_of(row[1], "=")


def round_text(row):
    return str(row[0]) + ": " + " ".join(map(str, row[1]))


def program_text(program):
    steps = [text_of(terms, "*") + " ^ " + str(times) for terms, times in program[1]]
    return str(program[0]) + ": " + ("; ".join(steps) if steps else "-")
