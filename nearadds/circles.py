"""Round rows modulo a prime as polynomials: x to the number of values is 1.

A rule is told as by_places (spreads.py) tells it, and its first place: what it leaves of a round row is the product of
both as polynomials, moved by the first place.
"""

from nearadds.blocks import levels_of
from nearadds.lanes import text_of, values_of
from nearadds.polys import divided, in_both, multiplied, times_x, trimmed


def whole_of(many, prime):
    """The polynomial x to the power many, less 1."""
    return [prime - 1] + [0] * (many - 1) + [1]


def share_of(number, prime):
    """The greatest power of a prime that divides a number from 1 on."""
    share = 1
    while number % (share * prime) == 0:
        share = share * prime
    return share


def folded(poly, many, prime):
    """What x to the power many less 1 leaves of a polynomial."""
    sums = [0] * many
    for power, value in enumerate(poly):
        sums[power % many] += value
    return trimmed(sums, prime)


def lessened(one, other, prime):
    """A polynomial less another one."""
    many = max(len(one), len(other))
    one, other = one + [0] * (many - len(one)), other + [0] * (many - len(other))
    return trimmed([value - less for value, less in zip(one, other)], prime)


def multiple_to_common(poly, whole, prime):
    """The tuple (multiple, common) of two polynomials, the second not nought.

    The multiple of the first one leaves, by the second one, a greatest polynomial that divides both.
    """
    multiple, further = [], [1]
    first, second = whole, poly
    while second:
        often, rest = divided(first, second, prime)
        first, second = second, rest
        multiple, further = further, lessened(multiple, multiplied(often, further, prime), prime)
    return multiple, first


def one_ahead(poly, first, values, prime):
    """A list of values of which a step of a rule leaves these modulo a prime; None if there is none."""
    many = len(values)
    multiple, common = multiple_to_common(folded(poly, many, prime), whole_of(many, prime), prime)
    often, rest = divided(trimmed(values, prime), common, prime)
    if rest:
        return None
    left = folded(multiplied(multiple, often, prime), many, prime)
    left = left + [0] * (many - len(left))
    # The rule moves by its first place, too: the cell that is led to a place stands so much ahead of it.
    by = first % many
    return left[by:] + left[:by]


def common_with(poly, many, prime):
    """The greatest polynomial that divides a rule and x to the power many, less 1."""
    return in_both(whole_of(many, prime), folded(poly, many, prime), prime)


def weights_against(poly, values, prime):
    """Weights whose sum is 0 for what a step leaves of all rows, but not for these values; None if there are none."""
    common = common_with(poly, len(values), prime)
    rest = divided(trimmed(values, prime), common, prime)[1]
    found = [k for k, value in enumerate(rest) if value]
    if not found:
        return None
    # The weight of a place is what x to this power leaves of the one coefficient that is found.
    row = [1] + [0] * (len(common) - 2)
    weights = []
    for _ in values:
        weights.append(row[found[0]])
        row = times_x(row, common, prime)
    return weights


def stepped(terms, values, stretch, prime):
    """The values that terms, their offsets so many times as great, leave of a round row."""
    many = len(values)
    shares = {}
    for offset, factor in terms:
        at = offset * stretch % many
        shares[at] = shares.get(at, 0) + factor
    sums = [0] * many
    for at, factor in shares.items():
        moved = values[at:] + values[:at]
        sums = [total + factor * value for total, value in zip(sums, moved)]
    return [total % prime for total in sums]


def done_often(terms, times, values, prime):
    """The values that so many steps leave of a round row modulo a prime."""
    stretch = 1
    while times:
        # A rule done as often as the prime is the rule with its offsets so many times as great (F1).
        for _ in range(times % prime):
            values = stepped(terms, values, stretch, prime)
        times = times // prime
        stretch = stretch * prime % len(values)
    return values


def left_around(told, values, prime):
    """The values that a spread (spreads.py) leaves of a round row modulo a prime."""
    first, parts = told
    many = len(values)
    lanes, levels = levels_of(parts, prime, many)
    number = 1
    # From the first figures of the times on: behind each level all powers of the ones ahead are stretched.
    for _, level in levels[::-1]:
        number = laid_around(lanes, lanes.number(lanes.text(number, 0, 1), prime), many)
        number = laid_around(lanes, lanes.multiplied(number, level), many)
    number = laid_around(lanes, lanes.multiplied(number, lanes.number(text_of(values), 1)), many)
    left = values_of(lanes.text(number, 0, 1))
    left = left + [0] * (many - len(left))
    by = -first % many
    return left[by:] + left[:by]


def laid_around(lanes, number, many):
    """A polynomial in lanes where x to the power many is 1."""
    width = lanes.width * many
    total = 0
    while number:
        total += number & ((1 << width) - 1)
        number = number >> width
    return lanes.reduced(total)
