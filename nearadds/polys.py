"""Polynomials modulo a prime: lists of remainders from the power 0 on, the last one not 0; [] is nought."""

from nearadds.packing import packed, unpacked, width_for

SHORT = 12


def trimmed(values, prime):
    """The polynomial of a list of integers, one for each power from 0 on."""
    rests = [value % prime for value in values]
    while rests and rests[-1] == 0:
        rests.pop()
    return rests


def inverse(number, prime):
    """The remainder that makes 1 if it is multiplied by a number that is not 0 modulo the prime."""
    return [rest for rest in range(prime) if rest * number % prime == 1][0]


def power_by(number, times, modulus):
    """The remainder, by any modulus, of the power of a number to a number from 0 on."""
    made = 1
    for at in reversed(range(times.bit_length())):
        made = made * made % modulus
        if times >> at & 1:
            made = made * number % modulus
    return made


def monic(poly, prime):
    """A polynomial, divided by its last coefficient."""
    if not poly:
        return []
    share = inverse(poly[-1], prime)
    return [value * share % prime for value in poly]


def multiplied(one, other, prime):
    """The product of two polynomials."""
    if min(len(one), len(other)) > SHORT:
        return multiplied_packed(list(one), list(other), prime)
    sums = [0] * (len(one) + len(other) - 1)
    for k, value in enumerate(one):
        for m, factor in enumerate(other):
            sums[k + m] += value * factor
    return trimmed(sums, prime)


def multiplied_packed(one, other, prime):
    """The same of two long polynomials."""
    width = width_for(prime, min(len(one), len(other)))
    number = packed(one, width) * packed(other, width)
    return trimmed(unpacked(number, len(one) + len(other) - 1, width), prime)


def product_of(parts, prime):
    """The product of polynomials, told in tuples (poly, times)."""
    product = [1]
    for poly, times in parts:
        for _ in range(times):
            product = multiplied(product, poly, prime)
    return product


def divided(one, other, prime):
    """The tuple of how often a polynomial has another one, not nought, in it, and of what is left then."""
    left = list(one)
    share = inverse(other[-1], prime)
    many = len(one) - len(other) + 1
    often = [0] * max(0, many)
    for at in reversed(range(many)):
        often[at] = left[at + len(other) - 1] * share % prime
        for k, value in enumerate(other):
            left[at + k] = (left[at + k] - often[at] * value) % prime
    return often, trimmed(left, prime)


def in_both(one, other, prime):
    """The greatest polynomial with the last coefficient 1 that divides two; [] if both are nought."""
    while other:
        one, other = other, divided(one, other, prime)[1]
    return monic(one, prime)


def slope(poly, prime):
    """The derivative of a polynomial."""
    return trimmed([k * value for k, value in enumerate(poly)][1:], prime)


def times_x(row, poly, prime):
    """x times a polynomial, as a list of as many remainders, by one with the last coefficient 1 and one more."""
    return [(value - row[-1] * much) % prime for value, much in zip([0] + row[:-1], poly)]


def power_of_x(times, poly, prime):
    """What a polynomial, its first coefficient not 0, leaves of x to a power from 0 on."""
    made = [1]
    for at in reversed(range(times.bit_length())):
        made = multiplied(made, made, prime)
        if times >> at & 1:
            made = [0] + made
        made = divided(made, poly, prime)[1]
    return made
