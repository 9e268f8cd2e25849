"""What the tests expect, worked out from the document's sentences, apart from the program's own functions."""

from itertools import product

MODULI = {2: [2], 3: [3], 5: [5], 6: [2, 3], 7: [7], 10: [2, 5], 11: [11], 13: [13], 14: [2, 7], 15: [3, 5]}
PRIMES = [2, 3, 5, 7, 11, 13]
FAR = 10 ** 60 - 1


# Values to try


def some_rule(chance, modulus, least=-4, greatest=4, many=None):
    """A rule with terms at some of the offsets, or at so many of them."""
    offsets = list(range(least, greatest + 1))
    many = chance.randint(0, len(offsets)) if many is None else many
    return modulus, tuple((d, chance.randrange(1, modulus)) for d in sorted(chance.sample(offsets, many)))


def some_row(chance, modulus, most=30, near=0, spread=20):
    """A finite row with cells at places near one."""
    many = chance.randint(0, most)
    places = sorted({near + chance.randint(-spread, spread) for _ in range(many)})
    return modulus, tuple((place, chance.randrange(1, modulus)) for place in places)


def some_round(chance, modulus, many):
    return modulus, tuple(chance.randrange(modulus) for _ in range(many))


def some_monic(chance, prime, coefficients):
    """A polynomial of a prime with the last coefficient 1."""
    middle = [chance.randrange(prime) for _ in range(coefficients - 2)]
    return (chance.randrange(1, prime), *middle, 1)


# Steps, cell by cell


def cell_behind(rule, cell, i):
    """The cell at i behind a step; cell tells those ahead of it."""
    return sum(factor * cell(i + offset) for offset, factor in rule[1]) % rule[0]


def row_behind(rule, row):
    """All cells of the places that a step can reach, one by one."""
    ahead = dict(row[1])
    places = sorted({place - offset for place in ahead for offset, _ in rule[1]})
    cells = [(i, cell_behind(rule, lambda at: ahead.get(at, 0), i)) for i in places]
    return rule[0], tuple((i, value) for i, value in cells if value)


def row_behind_all(rule, row):
    """The same without a thought which places can be reached: all near ones are tried."""
    ahead = dict(row[1])
    low, high = min(ahead, default=0) - 50, max(ahead, default=0) + 50
    cells = [(i, cell_behind(rule, lambda at: ahead.get(at, 0), i)) for i in range(low, high + 1)]
    return rule[0], tuple((i, value) for i, value in cells if value)


def round_behind(rule, row):
    values = row[1]
    return rule[0], tuple(cell_behind(rule, lambda at: values[at % len(values)], i) for i in range(len(values)))


# Rules, term by term


def sum_of(one, other):
    """Each offset's factors added."""
    modulus, first, second = one[0], dict(one[1]), dict(other[1])
    offsets = sorted(set(first) | set(second))
    sums = [(d, (first.get(d, 0) + second.get(d, 0)) % modulus) for d in offsets]
    return modulus, tuple((d, c) for d, c in sums if c)


def product_of(one, other):
    """For each offset the sum over all pairs of terms whose offsets add up to it."""
    modulus, second = one[0], dict(other[1])
    offsets = sorted({d + e for d, _ in one[1] for e, _ in other[1]})
    sums = [(d, sum(c * second.get(d - e, 0) for e, c in one[1]) % modulus) for d in offsets]
    return modulus, tuple((d, c) for d, c in sums if c)


def power_of(rule, times):
    made = (rule[0], ((0, 1),))
    for _ in range(times):
        made = product_of(made, rule)
    return made


def left_modulo(rule, prime):
    return tuple((d, c % prime) for d, c in rule[1] if c % prime)


# Programs, step by step, and far on


def some_program(chance, modulus, most=4, times=4, least=-2, greatest=2):
    """A program of few steps and few times, some of rules without terms or of 0 times."""
    steps = []
    for _ in range(chance.randint(0, most)):
        many = chance.choice([0] + 8 * list(range(1, greatest - least + 2)))
        steps.append((some_rule(chance, modulus, least, greatest, many)[1], chance.randint(0, times)))
    return modulus, tuple(steps)


def program_behind(program, row):
    """The row behind a program, stepped cell by cell."""
    for terms, often in program[1]:
        for _ in range(often):
            row = row_behind((program[0], terms), row)
    return row


def one_cell(modulus):
    return modulus, ((0, 1),)


def first_unlike(one, other):
    """The least place at which two finite rows have unlike values, and these; None if there is none."""
    first, second = dict(one[1]), dict(other[1])
    for place in sorted(set(first) | set(second)):
        if first.get(place, 0) != second.get(place, 0):
            return place, first.get(place, 0), second.get(place, 0)
    return None


def by_remainders(modulus, rests):
    """The remainder that leaves these by the primes of a modulus, found by trying."""
    return [k for k in range(modulus) if [k % prime for prime in MODULI[modulus]] == list(rests)][0]


def traced_back(steps, distance, prime):
    """What a cell so far on from the one cell 1 becomes modulo a prime, by the figures of the times (F1).

    The distances of the cells that count, with their weights, are gone back step by step. If all times left are
    multiples of the prime, only distances that are multiples count, and all may be told by the prime.
    """
    weights = {distance: 1}
    steps = [(terms, times) for terms, times in steps if times]
    while steps:
        for terms, times in steps:
            for _ in range(times % prime):
                further = {}
                for at, weight in weights.items():
                    for offset, factor in terms:
                        further[at + offset] = (further.get(at + offset, 0) + weight * factor) % prime
                weights = further
        weights = {at // prime: weight for at, weight in weights.items() if at % prime == 0 and weight}
        steps = [(terms, times // prime) for terms, times in steps if times // prime or not terms]
        if any(not terms for terms, _ in steps):
            return 0
    return weights.get(0, 0)


def far_value(program, row, place):
    """The value at a place behind a program, by what each cell of the row becomes there."""
    rests = []
    for prime in MODULI[program[0]]:
        steps = [(left_modulo((program[0], terms), prime), times) for terms, times in program[1]]
        if any(times and not terms for terms, times in steps):
            rests.append(0)
        else:
            rests.append(sum(value * traced_back(steps, place - at, prime) for at, value in row[1]) % prime)
    return by_remainders(program[0], rests)


def first_led(program, prime):
    """The least place to which a program leads the one cell 1 modulo a prime; None if it makes all 0."""
    place = 0
    for terms, times in program[1]:
        left = left_modulo((program[0], terms), prime)
        if times and not left:
            return None
        place -= times and left[-1][0] * times
    return place


def last_led(program, prime):
    turned = (program[0], tuple((turned_about(terms), times) for terms, times in program[1]))
    place = first_led(turned, prime)
    return None if place is None else -place


def turned_about(terms):
    return tuple(sorted((-d, c) for d, c in terms))


def stretched_rule(rule, by):
    return rule[0], tuple((d * by, c) for d, c in rule[1])


# Polynomials: tuples of coefficients from the power 0 on


def times(one, other, prime):
    made = [0] * (len(one) + len(other) - 1)
    for k, m in product(range(len(one)), range(len(other))):
        made[k + m] = (made[k + m] + one[k] * other[m]) % prime
    return tuple(made)


def product_of_all(parts, prime):
    made = (1,)
    for factor, often in parts:
        for _ in range(often):
            made = times(made, factor, prime)
    return made


def rest_by(one, other, prime):
    """What is left of a list of coefficients by a polynomial with the last coefficient 1, as many as it has less 1."""
    left = [value % prime for value in one]
    while len(left) >= len(other):
        last = left.pop()
        for k in range(len(other) - 1):
            left[len(left) - len(other) + 1 + k] -= last * other[k]
            left[len(left) - len(other) + 1 + k] %= prime
    return left + [0] * (len(other) - 1 - len(left))


def divides(other, one, prime):
    return not any(rest_by(one, other, prime))


def monics(prime, coefficients):
    """All polynomials with so many coefficients and the last one 1."""
    for low in product(range(prime), repeat=coefficients - 1):
        if low[0]:
            yield (*low, 1)


def is_prime_by_trying(poly, prime):
    """Whether no shorter polynomial divides one: one of two parts has at most half of the powers."""
    if len(poly) == 2:
        return True
    shorter = range(2, (len(poly) - 1) // 2 + 2)
    return not any(divides(other, poly, prime) for many in shorter for other in monics(prime, many))


def rest_of_x(power, poly, prime):
    """What a polynomial leaves of x to a power, by squares."""
    made, square = [1] + [0] * (len(poly) - 2), rest_by([0, 1], poly, prime)
    while power:
        if power & 1:
            made = rest_by(times(made, square, prime), poly, prime)
        square = rest_by(times(square, square, prime), poly, prime)
        power >>= 1
    return made


def is_prime_by_powers(poly, prime):
    """The same of a polynomial whose last power is a prime number n: x ** (prime ** n) is x, and it has no root."""
    n = len(poly) - 1
    roots = [x for x in range(prime) if sum(c * x ** k for k, c in enumerate(poly)) % prime == 0]
    return not roots and rest_of_x(prime ** n, poly, prime) == rest_by([0, 1], poly, prime)


def order_by_steps(poly, prime):
    one = [1] + [0] * (len(poly) - 2)
    n, power = 1, rest_by([0, 1], poly, prime)
    while power != one:
        n, power = n + 1, rest_by([0] + power, poly, prime)
    return n


def common_by_trying(one, other, prime):
    """The longest of all polynomials with the last coefficient 1 that divide two lists of coefficients."""
    found = (1,)
    for many in range(2, min(len(one), len(other)) + 1):
        for poly in monics(prime, many):
            if divides(poly, one, prime) and divides(poly, other, prime):
                found = poly
    return found


def coefficients(rule, prime):
    """What is left of a rule modulo a prime, from the least offset to the greatest one; () if nothing is."""
    left = dict(left_modulo(rule, prime))
    return tuple(left.get(d, 0) for d in range(min(left), max(left) + 1)) if left else ()


# What any object is, as the document tells


def same(one, other):
    """Whether two values are the same, their kinds too: True is not 1, a list is no tuple."""
    if type(one) is not type(other):
        return False
    if type(one) in (list, tuple):
        return len(one) == len(other) and all(same(a, b) for a, b in zip(one, other))
    return one is other or one == other


def told_integer(value, least=None, greatest=None):
    if type(value) is not int:
        return False
    return (least is None or least <= value) and (greatest is None or value <= greatest)


def told_tuple(value, *lengths):
    return type(value) is tuple and (not lengths or len(value) in lengths)


def told_pairs(value, modulus):
    if not told_tuple(value):
        return False
    for part in value:
        if not (told_tuple(part, 2) and told_integer(part[0]) and told_integer(part[1], 1, modulus - 1)):
            return False
    firsts = [part[0] for part in value]
    return firsts == sorted(set(firsts))


def told_whole(value):
    return told_tuple(value, 2) and told_integer(value[0]) and value[0] in list(MODULI)


def told_rule(value):
    return told_whole(value) and told_pairs(value[1], value[0])


def told_round(value):
    if not (told_whole(value) and told_tuple(value[1]) and value[1]):
        return False
    return all(told_integer(v, 0, value[0] - 1) for v in value[1])


def told_program(value):
    if not (told_whole(value) and told_tuple(value[1])):
        return False
    for part in value[1]:
        if not (told_tuple(part, 2) and told_pairs(part[0], value[0]) and told_integer(part[1], 0, 10 ** 30)):
            return False
    return True


def told_parts(modulus, value):
    if type(value) is not list or len(value) != len(MODULI[modulus]):
        return False
    return all(told_pairs(part, prime) for part, prime in zip(value, MODULI[modulus]))


def told_factor(prime, value):
    if not (told_tuple(value) and len(value) > 1 and all(told_integer(c, 0, prime - 1) for c in value)):
        return False
    return value[0] != 0 and value[-1] == 1 and is_prime_by_trying(value, prime)


def told_entry(prime, value):
    if not (told_tuple(value, 1, 4) and told_integer(value[0], prime, prime)):
        return False
    if len(value) == 1:
        return True
    if not (told_integer(value[1]) and told_integer(value[2], 1, prime - 1) and told_tuple(value[3])):
        return False
    for part in value[3]:
        if not (told_tuple(part, 2) and told_factor(prime, part[0]) and told_integer(part[1], 1)):
            return False
    factors = [part[0] for part in value[3]]
    return factors == sorted(set(factors))


def told_factored(modulus, value):
    if type(value) is not list or len(value) != len(MODULI[modulus]):
        return False
    return all(told_entry(prime, entry) for prime, entry in zip(MODULI[modulus], value))


# Objects that are none


def deep(kind, levels):
    made = kind()
    for _ in range(levels - 1):
        made = kind([made])
    return made


class Odd:
    """An object that is compared and measured with nothing."""

    def __eq__(self, other):
        raise AssertionError("an object of another kind was compared")

    def __len__(self):
        raise AssertionError("an object of another kind was measured")

    __hash__ = None


def odd_objects():
    """Objects of all kinds that are no rule, row, program, list of parts or prime factor."""
    return [
        None, True, False, 0, 1, 2, 6, -1, FAR, "", "2", "-1*1", b"", b"2", {}, {2: ()}, set(), {2}, frozenset(),
        object(), Odd(), len, int, tuple, range(2), range(0), NotImplemented, Ellipsis, 1j, iter([]), bytearray(b"2"),
        (), (2,), (6,), [2, ()], [6, []], (2, []), (2, None), (2, 0), (2, ""), (2, {}), (2, set()), (2, range(0)),
        (2, (), ()), ((), 2), ("2", ()), (None, ()), (True, ()), (0, ()), (1, ()), (4, ()), (8, ()), (9, ()),
        (12, ()), (16, ()), (17, ()), (30, ()), (-2, ()), (-3, ()), (2 + FAR, ()), (Odd(), ()), (2, Odd()),
        (2, (Odd(),)), (2, ((Odd(), Odd()),)), deep(list, 100), deep(tuple, 100), (2, deep(tuple, 99)),
        {"rule": [2, ()]}, [[[]], ([],)], ({2: [1]}, [1]),
    ]


def spoiled(value):
    """A value of tuples, lists and integers, each time with one thing in it another one."""
    if type(value) in (tuple, list):
        kind, items = type(value), list(value)
        yield (list if kind is tuple else tuple)(items)
        yield dict.fromkeys(range(len(items)))
        yield kind(items + [None])
        yield kind(items[::-1])
        for k in range(len(items)):
            yield kind(items[:k] + items[k + 1:])
            yield kind(items[:k + 1] + items[k:])
            yield kind(items[:k] + [items[k:k + 1]] + items[k + 1:])
            for odd in spoiled(items[k]):
                yield kind(items[:k] + [odd] + items[k + 1:])
    else:
        yield from (value + 1, value - 1, -value, 0, True, False, None, str(value), [value], (value,), FAR, -FAR, Odd())


def lists_in(value):
    """All lists that stand in lists and tuples of a value, itself too."""
    if type(value) not in (list, tuple):
        return []
    inner = [found for part in value for found in lists_in(part)]
    return [value] + inner if type(value) is list else inner


def tuples_in(value):
    """All tuples, but empty ones, that stand in lists and tuples of a value, itself too."""
    if type(value) not in (list, tuple):
        return []
    inner = [found for part in value for found in tuples_in(part)]
    return [value] + inner if type(value) is tuple and value else inner


# Endless rows that a sum over near cells tells, walked cell by cell


def walked(weights, values, low, high, prime):
    """The cells from low to high of the endless row with these values from 0 on, by their places.

    For each place j the sum of weight times the cell at j + offset, over all pairs (offset, weight), is 0 modulo the
    prime; the offsets of the first and the last pair are so far from one another as there are values.
    """
    least, first = weights[0]
    greatest, last = weights[-1]
    cells = dict(enumerate(values))
    for at in range(len(values), high + 1):
        total = sum(weight * cells[at - greatest + offset] for offset, weight in weights[:-1])
        cells[at] = -total * pow(last, -1, prime) % prime
    for at in range(-1, low - 1, -1):
        total = sum(weight * cells[at - least + offset] for offset, weight in weights[1:])
        cells[at] = -total * pow(first, -1, prime) % prime
    return cells


def kept_by(weights, cells, low, high, prime):
    """Whether all these sums are 0 that need but cells from low to high."""
    places = range(low - weights[0][0], high - weights[-1][0] + 1)
    return all(sum(weight * cells[j + offset] for offset, weight in weights) % prime == 0 for j in places)


# Tables of steps: rows of remainders, one for each cell that is 1 alone


def rank_of(rows, prime):
    """How many rows of a table are left if each is freed of multiples of the ones ahead of it."""
    pivots = []
    for row in rows:
        left = [value % prime for value in row]
        for at, pivot in pivots:
            much = left[at]
            left = [(value - much * other) % prime for value, other in zip(left, pivot)]
        found = [at for at, value in enumerate(left) if value]
        if found:
            share = pow(left[found[0]], -1, prime)
            pivots.append((found[0], [value * share % prime for value in left]))
    return len(pivots)


def table_of(behind, many, prime):
    """The table of what is left of each cell that is 1 alone by a step, told by a function of lists of values."""
    return [[value % prime for value in behind(tuple(int(k == at) for k in range(many)))] for at in range(many)]


def ring_table(rule, n, prime):
    return table_of(lambda values: round_behind((prime, left_modulo(rule, prime)), (prime, values))[1], n, prime)


def table_product(one, other, prime):
    columns = list(zip(*other))
    return [[sum(a * b for a, b in zip(row, column)) % prime for column in columns] for row in one]


def table_power(table, times, prime):
    made, square = [[int(k == m) for m in range(len(table))] for k in range(len(table))], table
    while times:
        if times & 1:
            made = table_product(made, square, prime)
        square = table_product(square, square, prime)
        times >>= 1
    return made


def nought_rank(table, prime):
    """The dimension of the rows of which a table leaves 0 alone."""
    return len(table) - rank_of(table, prime)


def tail_and_rank(table, prime):
    """How many steps lower the rank still, and the rank behind them."""
    tail, made = 0, table_power(table, 0, prime)
    ranks = [len(table)]
    while True:
        made = table_product(made, table, prime)
        ranks.append(rank_of(made, prime))
        if ranks[-1] == ranks[-2]:
            return tail, ranks[-1]
        tail += 1


def common_of(one, other, prime):
    """The greatest polynomial that divides two tuples of coefficients, not both nought, by remainders."""
    one, other = cut(one), cut(other)
    while other:
        share = pow(other[-1], -1, prime)
        other = tuple(value * share % prime for value in other)
        one, other = other, cut(rest_by(one, other, prime))
    return one


def cut(values):
    values = list(values)
    while values and values[-1] == 0:
        values.pop()
    return tuple(values)


def prime_parts_of(number):
    return [q for q in range(2, number + 1) if number % q == 0 and all(q % d for d in range(2, int(q ** 0.5) + 1))]


def least_of_multiples(numbers):
    """Those of some numbers that are multiples of no other one of them."""
    return [n for n in sorted(set(numbers)) if not [d for d in numbers if d < n and n % d == 0]]
