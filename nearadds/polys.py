"""Polynomials modulo a prime: lists of remainders from the power 0 on, the last one not 0; [] is nought."""

from nearadds.lanes import Lanes, text_of, values_of

SHORT = 12


def trimmed(values, prime):
    """The polynomial of a list of integers, one for each power from 0 on."""
    rests = [value % prime for value in values]
    while rests and rests[-1] == 0:
        rests.pop()
    return rests


def inverse(number, prime):
    """The remainder that makes 1 if it is multiplied by a number that is not 0 modulo the prime."""
    return [rest for rest in range(prime) if rest * number % prime == 1][0]


def power_by(number, times, modulus):
    """The remainder, by any modulus, of the power of a number to a number from 0 on."""
    made = 1
    for at in reversed(range(times.bit_length())):
        made = made * made % modulus
        if times >> at & 1:
            made = made * number % modulus
    return made


def monic(poly, prime):
    """A polynomial, divided by its last coefficient."""
    if not poly:
        return []
    share = inverse(poly[-1], prime)
    return [value * share % prime for value in poly]


def multiplied(one, other, prime):
    """The product of two polynomials."""
    if min(len(one), len(other)) > SHORT:
        return multiplied_in_lanes(one, other, prime)
    sums = [0] * (len(one) + len(other) - 1)
    for k, value in enumerate(one):
        for m, factor in enumerate(other):
            sums[k + m] += value * factor
    return trimmed(sums, prime)


def multiplied_in_lanes(one, other, prime):
    """The same of two long polynomials."""
    lanes = Lanes(prime, min(len(one), len(other)))
    number = lanes.multiplied(lanes.number(text_of(one), 1), lanes.number(text_of(other), 1))
    return trimmed(values_of(lanes.text(number, 0, 1)), prime)


def product_of(parts, prime):
    """The product of polynomials, told in tuples (poly, times)."""
    product = [1]
    for poly, times in parts:
        for _ in range(times):
            product = multiplied(product, poly, prime)
    return product


def divided(one, other, prime):
    """The tuple of how often a polynomial has another one, not nought, in it, and of what is left then."""
    left = list(one)
    share = inverse(other[-1], prime)
    many = len(one) - len(other) + 1
    often = [0] * max(0, many)
    terms = [(k, value) for k, value in enumerate(other) if value]
    for at in reversed(range(many)):
        much = left[at + len(other) - 1] * share % prime
        if much:
            often[at] = much
            for k, value in terms:
                left[at + k] = (left[at + k] - much * value) % prime
    return often, trimmed(left, prime)


def in_both(one, other, prime):
    """The greatest polynomial with the last coefficient 1 that divides two; [] if both are nought."""
    while other:
        one, other = other, divided(one, other, prime)[1]
    return monic(one, prime)


def stretched(poly, stretch):
    """A polynomial with each power so many times as great."""
    made = [0] * ((len(poly) - 1) * stretch + 1)
    for power, value in enumerate(poly):
        made[power * stretch] = value
    return made


def slope(poly, prime):
    """The derivative of a polynomial."""
    return trimmed([k * value for k, value in enumerate(poly)][1:], prime)


def times_x(row, poly, prime):
    """x times a polynomial, as a list of as many remainders, by one with the last coefficient 1 and one more."""
    return [(value - row[-1] * much) % prime for value, much in zip([0] + row[:-1], poly)]


def figures(number, base):
    """The list of the figures of an integer from 0 on to a base, the last one ahead."""
    found = []
    while number:
        found.append(number % base)
        number = number // base
    return found
