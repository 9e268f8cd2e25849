"""Which looks have to be left out so that the others have a solution, modulo several primes at once.

Modulo a prime looks contradict by multiples of them whose cells add up to 0 and whose values do not. To leave a look
out is as good as to give it any value: so some are enough to be left out if the columns of these looks, in the rows of
all such multiples, add up with some factors to the column of what the values add up to.

A state is a tuple (columns, sums, prime): the columns, of the looks from one on, and the sums, both as far as the looks
that are left out already do not make up for them.
"""

from nearadds.equations import cleared, one_at


def state_of(multiples, sums, looks, prime):
    """The state with no look left out, by the rows of the multiples of so many looks and by what their values make."""
    return [[row[k] for row in multiples] for k in range(looks)], sums, prime


def without(state, k):
    """The state with the look of a column left out: of the looks behind it."""
    columns, sums, prime = state
    found = [at for at, value in enumerate(columns[k]) if value]
    if not found:
        return columns[k + 1:], sums, prime
    pivot = one_at(columns[k], found[0], prime)
    further = [cleared(column, pivot, found[0], prime) for column in columns[k + 1:]]
    return further, cleared(sums, pivot, found[0], prime), prime


def first_left_out(states, first, number, many):
    """The first list of so many indexes, from one to below many, of looks that are enough; None if there is none."""
    if number == 0:
        return None if any([any(sums) for _, sums, _ in states]) else []
    for k in range(first, many - number + 1):
        found = first_left_out([without(state, k - first) for state in states], k + 1, number - 1, many)
        if found is not None:
            return [k] + found
    return None
