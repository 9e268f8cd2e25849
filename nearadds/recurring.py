"""Endless rows that one sum over side by side cells tells on and on, by remainders of powers of x.

If modulo a prime the sum of poly[k] times the cell at i + k is 0 for each place i, the cell at a place is the sum of
the cells at 0, 1 and so on, multiplied by the coefficients of what poly (polys.py, first coefficient not 0) leaves of
x to the power place.
"""

from math import lcm

from nearadds.factors import order
from nearadds.polys import monic, power_of_x
from nearadds.splitting import prime_factors


def turns_of(parts, prime):
    """The least number n from 1 on such that a product of prime factors, told with their times, divides x ** n - 1."""
    turns = 1
    for part, _ in parts:
        turns = lcm(turns, order(prime, part))
    share = 1
    while share < max([times for _, times in parts], default=0):
        share = share * prime
    return turns * share


def turns_of_poly(poly, prime):
    """The same for a polynomial, its first coefficient not 0."""
    return turns_of(prime_factors(monic(poly, prime), prime), prime)


def far_remainder(place, poly, turns, prime):
    """The list of as many coefficients as the last power of a polynomial of what it leaves of x to any place.

    The polynomial divides x to the turns, less 1.
    """
    if len(poly) == 1:
        return []
    left = power_of_x(place % turns, poly, prime)
    return left + [0] * (len(poly) - 1 - len(left))
