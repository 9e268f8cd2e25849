"""Where two programs part modulo a prime p, by the quotient of what they leave.

What a program leaves of the one cell 1 is, by its first place and value, a product of powers of polynomials. So the
quotient of two is a product of powers, some to numbers below 0, of polynomials that have no prime factor twice and
none in common with one another. If p ** v is the greatest power of p that divides all of these numbers, the quotient
is a power to p ** v of another one of which some number is not divided by p: that one's logarithmic derivative is not
0, so it is not 1. As a power series, it is known by its first terms where it ceases to be 1.
"""

from nearadds.equations import one_at
from nearadds.polys import divided, in_both, monic, multiplied, power_by, slope, stretched, trimmed
from nearadds.spreads import spread


def layers(poly, prime):
    """A list of tuples (part, share): a polynomial with the last coefficient 1 is the product of the parts to them.

    No part has a prime factor twice; several parts may have one.
    """
    found = []
    share = 1
    while len(poly) > 1:
        once = divided(poly, in_both(poly, slope(poly, prime), prime), prime)[0]
        if len(once) > 1:
            found.append((once, share))
            poly = divided(poly, once, prime)[0]
        else:
            # All times are divided by the prime: modulo it, g(x) ** prime is g(x ** prime).
            poly = poly[::prime]
            share = share * prime
    return found


def put_in(basis, part, times, prime):
    """A list of tuples (part, times), no two parts with a prime factor in common, with one more part multiplied in."""
    found = []
    for other, often in basis:
        shared = in_both(part, other, prime)
        if len(shared) > 1:
            found.append((shared, often + times))
            part = divided(part, shared, prime)[0]
            other = divided(other, shared, prime)[0]
        if len(other) > 1:
            found.append((other, often))
    if len(part) > 1:
        found.append((part, times))
    return found


def quotient(parts, others, prime):
    """The list of tuples (part, times), times not 0, as whose product one product is another one's multiple."""
    basis = []
    for poly, times in parts + [(divisor, -often) for divisor, often in others]:
        for part, share in layers(monic(poly, prime), prime):
            basis = put_in(basis, part, share * times, prime)
    return [(part, times) for part, times in basis if times]


def first_value(parts, prime):
    """The coefficient of the power 0 of a product of powers."""
    product = 1
    for poly, times in parts:
        product = product * power_by(poly[0], times, prime) % prime
    return product


def parting_place(one, other, prime):
    """The least place at which two programs leave unlike values, modulo a prime, of the one cell 1; None if none."""
    told, further = spread(one, prime), spread(other, prime)
    if told is None or further is None:
        firsts = [part[0] for part in (told, further) if part is not None]
        return firsts[0] if firsts else None
    if told[0] != further[0]:
        return min(told[0], further[0])
    if first_value(told[1], prime) != first_value(further[1], prime):
        return told[0]
    parts = quotient(told[1], further[1], prime)
    return told[0] + first_change(parts, prime) if parts else None


def first_change(parts, prime):
    """The least power from 1 on at which the product of such parts, divided by its coefficient of 0, is not 0."""
    share = 1
    while all([times // share % prime == 0 for _, times in parts]):
        share = share * prime
    ones = [(one_at(part, 0, prime), times // share) for part, times in parts]
    size = 8
    found = []
    while not found:
        series = series_of(ones, size, prime)
        found = [power for power, value in enumerate(series) if power and value]
        size = 4 * size
    return share * found[0]


def series_of(parts, size, prime):
    """The list of at most so many coefficients of a product of powers, also to numbers below 0, with 1 at 0 each."""
    made = [1]
    stretch = 1
    while stretch < size:
        # The figures of a number below 0 to the base of a prime never end; only so many of them count.
        level = figure_product(parts, stretch, (size - 1) // stretch + 1, prime)
        made = multiplied(made, stretched(level, stretch), prime)[:size]
        stretch = stretch * prime
    return made


def figure_product(parts, stretch, size, prime):
    """The first coefficients of the product of the parts to the figure of their times that counts a stretch."""
    made = [1]
    for part, times in parts:
        for _ in range(times // stretch % prime):
            made = trimmed(multiplied(made, part[:size], prime)[:size], prime)
    return made
