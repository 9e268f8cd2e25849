"""Endless rows that one sum over side by side cells tells on and on, by remainders of powers of x.

If modulo a prime the sum of poly[k] times the cell at i + k is 0 for each place i, the cell at a place is the sum of
the cells at 0, 1 and so on, multiplied by the coefficients of what poly (polys.py, first coefficient not 0) leaves of
x to the power place.
"""

from math import lcm

from nearadds.factors import order
from nearadds.leavings import Leavings

# Farther powers of x are not worked out by multiplying by x on and on.
NEAR = 64


def turns_of(parts, prime):
    """The least number n from 1 on such that a product of prime factors, told with their times, divides x ** n - 1."""
    turns = 1
    for part, _ in parts:
        turns = lcm(turns, order(prime, part))
    share = 1
    while share < max([times for _, times in parts], default=0):
        share = share * prime
    return turns * share


def turns_for(width, times, prime):
    """A number n from 1 on such that x ** n - 1 is divided by each polynomial to these times that is so wide at most.

    The first and the last coefficient of the polynomial are not 0.
    """
    turns = power = share = 1
    for _ in range(width):
        power = power * prime
        turns = lcm(turns, power - 1)
    while share < width * times:
        share = share * prime
    return turns * share


def row_remainder(cells, poly, turns, prime):
    """The list of as many remainders as a polynomial is wide: the sum of what it leaves of x to the places of cells.

    Each is multiplied by its value. The polynomial divides x to the turns, less 1.
    """
    sums = [0] * (len(poly) - 1)
    if not sums:
        return sums
    leavings = Leavings(poly, prime)
    power, at = leavings.one, 0
    for place, value in cells:
        if 0 <= place - at < NEAR:
            power = leavings.further(power, place - at)
        else:
            power = leavings.power(place % turns)
        sums = [(total + value * much) % prime for total, much in zip(sums, power)]
        at = place
    return sums
