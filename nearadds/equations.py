"""Rows of equations modulo a prime: lists of remainders that are made 0 by multiples of one another."""

from nearadds.polys import inverse


def cleared(row, pivot, at, prime):
    """A row less the multiple of another one, which has 1 at an index, that makes it 0 there."""
    if row[at] == 0:
        return row
    return [(value - row[at] * much) % prime for value, much in zip(row, pivot)]


def one_at(row, at, prime):
    """A row divided by what it has at an index."""
    share = inverse(row[at], prime)
    return [value * share % prime for value in row]


def echelon(rows, many, prime):
    """The tuple (indexes, pivots, rest) of what rows become, with a pivot for each index below many that can have one.

    The pivot of an index has 1 there, and all other rows have 0. The rest has 0 at all indexes below many; what stands
    behind these comes along.
    """
    indexes, pivots, rest = [], [], list(rows)
    for at in range(many):
        found = [k for k, row in enumerate(rest) if row[at]]
        if found:
            pivot = one_at(rest.pop(found[0]), at, prime)
            rest = [cleared(row, pivot, at, prime) for row in rest]
            pivots = [cleared(row, pivot, at, prime) for row in pivots] + [pivot]
            indexes.append(at)
    return indexes, pivots, rest
