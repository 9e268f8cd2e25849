"""Coefficients far out in products of great powers of polynomials modulo a prime p (polys.py).

The powers are told as a list of parts (poly, times). Modulo p the power of a polynomial to p is the polynomial with
each power p times as great (F1). So such a product is the one with the last figures, to the base p, of its times,
multiplied by the one of all other figures, whose powers are stretched to p times. Level by level, the coefficients
that are asked for need but a few ones of the next level.
"""

from nearadds.packing import packed, unpacked, width_for
from nearadds.polys import multiplied


def figures(times, prime):
    """The list of the figures of an integer from 0 on to the base of a prime, the last one ahead."""
    found = []
    while times:
        found.append(times % prime)
        times = times // prime
    return found


def powers_to(poly, most, prime):
    """The list of the powers of a polynomial, from that to 0 to that to most."""
    made = [[1]]
    for _ in range(most):
        made.append(multiplied(made[-1], poly, prime))
    return made


def level_polys(parts, prime):
    """The list, figure by figure, of the product of the powers of all parts to this figure of their times."""
    told = [figures(times, prime) for _, times in parts]
    powers = [powers_to(part[0], max(own, default=0), prime) for part, own in zip(parts, told)]
    made = []
    for level in range(max([len(own) for own in told], default=0)):
        product = [1]
        for own, power in zip(told, powers):
            if level < len(own) and own[level]:
                product = multiplied(product, power[own[level]], prime)
        made.append(product)
    return made


def levels_of(parts, prime):
    """The list of tuples (last power, width, phases), one for each level.

    A phase is every so many-th coefficient, p being how many, of a level's polynomial; the width is that of packing.
    """
    found = []
    for poly in level_polys(parts, prime):
        width = width_for(prime, (len(poly) - 1) // prime + 1)
        found.append((len(poly) - 1, width, [packed(poly[rest::prime], width) for rest in range(prime)]))
    return found


def windows_of(levels, low, high, prime):
    """The list of tuples (low, high), for each level and the end, of which powers, high excluded, are needed."""
    found = [(low, high)]
    for last, _, _ in levels:
        low, high = -((last - low) // prime), (high - 1) // prime + 1
        found.append((low, high))
    return found


def block(levels, low, many, prime):
    """The list of so many coefficients, from a power on, of the product with these levels."""
    windows = windows_of(levels, low, low + many, prime)
    # Behind the last figures stands the power to 0 of all parts.
    values = [int(power == 0) for power in range(windows[-1][0], windows[-1][1])]
    for at in reversed(range(len(levels))):
        if not any(values):
            return [0] * many
        values = ahead_of(levels[at], values, windows[at + 1][0], windows[at], prime)
    return values


def ahead_of(level, values, start, window, prime):
    """The coefficients in the window of a level, by those of the next one from a power on."""
    _, width, phases = level
    low, high = window
    number = packed(values, width)
    found, begins = [], []
    for rest, phase in enumerate(phases):
        begin = -((rest - low) // prime)
        many = (high - 1 - rest) // prime + 1 - begin
        if phase:
            found.append(unpacked(number * phase >> width * (begin - start), many, width))
        else:
            found.append([0] * many)
        begins.append(begin)
    return [found[power % prime][power // prime - begins[power % prime]] % prime for power in range(low, high)]
