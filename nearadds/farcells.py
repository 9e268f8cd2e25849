"""Cells far on: what programs leave of finite rows."""

from nearadds.errors import InvalidNumber
from nearadds.partings import parting_place
from nearadds.programs import total
from nearadds.rules import need_program, need_programs, need_row, need_same, primes_of
from nearadds.spreads import last_of, spread, values_left

MOST_CELLS = 20


def need_both(program, row):
    """Refuses two objects that are not a program and a finite row of one modulus."""
    need_program(program)
    need_row(row)
    need_same(program, row)


def cell(program, row, place):
    """The value at a place of what a program leaves of a finite row."""
    need_both(program, row)
    return values_left(program, row[1], place, 1)[0]


def cells(program, row, place, count):
    """The list of the values at so many places, from this one on."""
    need_both(program, row)
    if not 1 <= count <= MOST_CELLS:
        raise InvalidNumber(count)
    return values_left(program, row[1], place, count)


def places_left(row, prime):
    """The ascending list of the places at which a finite row is not 0 modulo a prime."""
    return [place for place, value in row[1] if value % prime]


def first_cell(program, row):
    """The least place at which a program leaves something other than 0 of a finite row; None if there is none."""
    need_both(program, row)
    found = []
    for prime in primes_of(row[0]):
        told, places = spread(program, prime), places_left(row, prime)
        if told is not None and places:
            found.append(places[0] + told[0])
    return min(found, default=None)


def last_cell(program, row):
    """The greatest such place; None if there is none."""
    need_both(program, row)
    found = []
    for prime in primes_of(row[0]):
        told, places = spread(program, prime), places_left(row, prime)
        if told is not None and places:
            found.append(places[-1] + last_of(told))
    return max(found, default=None)


def row_total(program, row):
    """The sum of all values that a program leaves of a finite row, by the modulus."""
    need_both(program, row)
    return total(program) * sum([value for _, value in row[1]]) % row[0]


def parting_cell(one, other, row):
    """The least place at which two programs leave unlike values of a finite row, and these; None if there is none."""
    need_programs(one, other)
    need_row(row)
    need_same(one, row)
    found = []
    for prime in primes_of(row[0]):
        place, places = parting_place(one, other, prime), places_left(row, prime)
        if place is not None and places:
            # The first cells of a product are the products of the first ones.
            found.append(place + places[0])
    if not found:
        return None
    place = min(found)
    return place, values_left(one, row[1], place, 1)[0], values_left(other, row[1], place, 1)[0]
