"""The prime factors of polynomials modulo a prime p, as polys.py has them, by Berlekamp's way.

Let a polynomial f have no prime factor twice. The g with fewer coefficients for which f divides g ** p - g are the
sums of multiples of as many of them as f has prime factors. Each of them is one remainder modulo each prime factor:
so what f and g - r have in common, for all remainders r, are parts that make up f.
"""

from nearadds.equations import cleared, one_at
from nearadds.polys import divided, in_both, slope, times_x, trimmed


def powers_less_own(poly, prime):
    """The list, for each k below the last power of poly, of the row that it leaves of x ** (p * k) - x ** k."""
    many = len(poly) - 1
    rows = []
    row = [1] + [0] * (many - 1)
    for k in range(many):
        rows.append([(value - int(m == k)) % prime for m, value in enumerate(row)])
        for _ in range(prime):
            row = times_x(row, poly, prime)
    return rows


def sums_to_nought(rows, prime):
    """Lists of multiples with which rows add up to 0, so many that all others are sums of their multiples."""
    many = len(rows)
    # Behind each row stands of which multiples of the rows that were passed it has come to be.
    carried = [row + [int(m == k) for m in range(many)] for k, row in enumerate(rows)]
    for at in range(many):
        found = [k for k, row in enumerate(carried) if row[at]]
        if found:
            pivot = one_at(carried.pop(found[0]), at, prime)
            carried = [cleared(row, pivot, at, prime) for row in carried]
    return [row[many:] for row in carried]


def constants(poly, prime):
    """The list of the told g of the head of this file."""
    return sums_to_nought(powers_less_own(poly, prime), prime)


def is_simple(poly, prime):
    """Whether a polynomial has no prime factor twice."""
    return len(in_both(poly, slope(poly, prime), prime)) == 1


def is_unsplit(poly, prime):
    """Whether a polynomial with two coefficients or more, the last one 1, is no product of two with fewer."""
    return is_simple(poly, prime) and len(constants(poly, prime)) == 1


def pieces(poly, constant, prime):
    """What a polynomial has in common with a told g less each remainder, without what has one coefficient."""
    made = []
    for rest in range(prime):
        made.append(in_both(poly, trimmed([constant[0] - rest] + constant[1:], prime), prime))
    return [piece for piece in made if len(piece) > 1]


def all_pieces(poly, prime):
    """The list of the prime factors of a polynomial with the last coefficient 1 that has none of them twice."""
    if len(poly) == 1:
        return []
    told = constants(poly, prime)
    parts = [poly]
    for constant in told:
        if len(parts) < len(told):
            parts = [piece for part in parts for piece in pieces(part, constant, prime)]
    return parts


def taken_out(poly, part, prime):
    """The tuple of how often a polynomial can be divided by a part, and of what it is then."""
    times = 0
    often, left = divided(poly, part, prime)
    while not left:
        times += 1
        poly = often
        often, left = divided(poly, part, prime)
    return times, poly


def prime_factors(poly, prime):
    """The ascending list of tuples (prime factor, times) of a polynomial, the first coefficient not 0, the last 1."""
    found = []
    share = 1
    while len(poly) > 1:
        # The slope has each prime factor once less, but those that occur a multiple of the prime times: these are lost.
        once = divided(poly, in_both(poly, slope(poly, prime), prime), prime)[0]
        for part in all_pieces(once, prime):
            times, poly = taken_out(poly, part, prime)
            found.append((tuple(part), times * share))
        # Just the lost ones are left, a power to the prime: modulo it, g(x) ** prime is g(x ** prime).
        poly = poly[::prime]
        share = share * prime
    return sorted(found)
