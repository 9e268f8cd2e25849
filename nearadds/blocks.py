"""Coefficients far out in products of great powers of polynomials modulo a prime p (polys.py).

The powers are told as a list of parts (poly, times). Modulo p the power of a polynomial to p is the polynomial with
each power p times as great (F1). So such a product is the one with the last figures, to the base p, of its times,
multiplied by the one of all other figures, whose powers are stretched to p times. Level by level, the coefficients
that are asked for need but a few ones of the next level. The polynomials are told in lanes (lanes.py).
"""

from nearadds.lanes import FIGURES, Lanes, text_of, values_of
from nearadds.polys import figures

# Cells so near one another are worked on together.
NEAR = 200


def levels_of(parts, prime, most):
    """The tuple (lanes, levels) of a product: levels is a list of tuples (last power, number in lanes).

    The lanes are for products with polynomials of the levels or of as many coefficients as most tells.
    """
    lanes = Lanes(prime, max(most, sum([(len(poly) - 1) * (prime - 1) for poly, _ in parts]) + 1))
    told = [figures(times, prime) for _, times in parts]
    powers = [powers_to(lanes, part[0], max(own, default=0)) for part, own in zip(parts, told)]
    made = {(): 1}
    levels = []
    for level in range(max([len(own) for own in told], default=0)):
        often = tuple([own[level] if level < len(own) else 0 for own in told])
        last = sum([(len(part[0]) - 1) * times for part, times in zip(parts, often)])
        levels.append((last, level_number(lanes, powers, often, made)))
    return lanes, levels


def powers_to(lanes, poly, most):
    """The list, in lanes, of the powers of a polynomial, from that to 0 to that to most."""
    number = lanes.number(text_of(poly), 1)
    made = [1]
    for _ in range(most):
        made.append(lanes.multiplied(made[-1], number))
    return made


def level_number(lanes, powers, often, made):
    """The product of one power of each part; all products of the first parts that were made are kept by their times."""
    for many in range(1, len(often) + 1):
        if often[:many] not in made:
            number = made[often[:many - 1]]
            if often[many - 1]:
                number = lanes.multiplied(number, powers[many - 1][often[many - 1]])
            made[often[:many]] = number
    return made[often]


def last_power(lanes, levels):
    """The last power of what the levels make up."""
    power = 0
    for last, _ in levels[::-1]:
        power = power * lanes.prime + last
    return power


def clusters(cells, prime):
    """The list of tuples (place, text) of cells near one another: the text tells the values from the place on."""
    found = []
    for at, value in cells:
        figure = FIGURES[value % prime]
        if figure != "0":
            if found and at - found[-1][0] - len(found[-1][1]) < NEAR:
                place, text = found[-1]
                found[-1] = (place, text + "0" * (at - place - len(text)) + figure)
            else:
                found.append((at, figure))
    return found


def value_at(lanes, levels, cells, place):
    """The coefficient, of a power told by a place, of the product of cells (as powers) and what the levels make up.

    Where the figures are gone through from the last one on, of cells and a level multiplied but each p-th coefficient
    counts: so many powers with the place's own last figure.
    """
    reach = last_power(lanes, levels)
    told = [(place - at, text) for at, text in clusters(cells, lanes.prime)][::-1]
    told = [(power, text) for power, text in told if 0 <= power < reach + len(text)]
    for _, level in levels:
        further = []
        for power, text in told:
            number = lanes.multiplied(lanes.number(text, 1), level)
            left = lanes.text(number, power % lanes.prime, lanes.prime)
            if left.strip("0"):
                put_near(lanes, further, power // lanes.prime, left)
        told = further
    return sum([int(text[power], 16) for power, text in told if power < len(text)]) % lanes.prime


def put_near(lanes, told, power, text):
    """Puts a text behind the told ones, the powers of which are not greater; near ones become one."""
    if told and power - told[-1][0] < NEAR:
        other, earlier = told.pop()
        # With a power so many times less asked for, so many powers more of x are in the text.
        number = lanes.number(text, 1) + lanes.number("0" * (power - other) + earlier, 1)
        text = lanes.text(lanes.reduced(number), 0, 1)
    told.append((power, text))


def window(lanes, levels, low, many):
    """The list of so many coefficients, from a power on, of what the levels make up."""
    if low + many <= 0 or low > last_power(lanes, levels):
        return [0] * many
    windows = [(low, low + many)]
    for last, _ in levels:
        low, high = windows[-1]
        windows.append(((low - last) // lanes.prime, (high - 1) // lanes.prime + 1))
    low, high = windows.pop()
    # Behind the last figures stands the power to 0 of all parts.
    text = "".join([FIGURES[int(power == 0)] for power in range(low, high)])
    for _, level in levels[::-1]:
        begin = low * lanes.prime
        low, high = windows.pop()
        number = lanes.multiplied(lanes.number(text, lanes.prime), level)
        text = lanes.text(number, low - begin, 1)[:high - low]
    return values_of(text) + [0] * (many - len(text))
