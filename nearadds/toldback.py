"""Rules that are not known but by looks: which ones fit, what is sure, and which looks are wrong.

Modulo each prime a look is one equation: the sum of its cells times the factors is its value (T1). The factors are
told from the least offset to the greatest one.
"""

from nearadds.equations import cleared, echelon
from nearadds.errors import InvalidCells, InvalidLooks, InvalidNumber, NoRule
from nearadds.forms import is_number, is_remainders, is_two, is_within, renewed
from nearadds.rules import by_prime, has_prime, is_rule, one_for, primes_of, put_together
from nearadds.wronglooks import first_left_out, state_of

MOST_REACH = 3


def need_looks(modulus, reach, looks):
    """Refuses what tells no looks; returns the list of the primes of the modulus."""
    primes = primes_of(modulus)
    if not 0 <= reach <= MOST_REACH:
        raise InvalidNumber(reach)
    if not isinstance(looks, tuple) or not all([is_look(look, modulus, reach) for look in looks]):
        raise InvalidLooks(renewed(looks))
    return primes


def is_look(value, modulus, reach):
    """Whether any object is a look."""
    return is_two(value) and is_remainders(value[0], 2 * reach + 1, modulus) and is_within(value[1], 0, modulus - 1)


def solved(looks, many, prime):
    """What echelon tells of looks modulo a prime: behind the cells stand the value and of which looks a row is made."""
    rows = []
    for k, (values, behind) in enumerate(looks):
        rows.append([value % prime for value in values + (behind,)] + [int(k == m) for m in range(len(looks))])
    return echelon(rows, many, prime)


def contradicts(told, many):
    """Whether what solved tells has no solution."""
    return any([row[many] for row in told[2]])


def solutions(looks, many, primes):
    """The list, for each prime, of what solved tells; None if there is no solution modulo one of them."""
    found = [solved(looks, many, prime) for prime in primes]
    return None if any([contradicts(told, many) for told in found]) else found


def terms_of(factors, reach):
    """The terms that have these factors."""
    return tuple([(k - reach, factor) for k, factor in enumerate(factors) if factor])


def one_solution(told, many):
    """The factors of one solution: those of the offsets without a pivot are 0."""
    factors = [0] * many
    for at, pivot in zip(told[0], told[1]):
        factors[at] = pivot[many]
    return factors


def free_solutions(told, many, prime):
    """The list of the factors that make all cells of the looks 0, one 1 at each offset without a pivot."""
    found = []
    for free in range(many):
        if free not in told[0]:
            factors = [int(k == free) for k in range(many)]
            for at, pivot in zip(told[0], told[1]):
                factors[at] = -pivot[free] % prime
            found.append(factors)
    return found


def fitting(modulus, reach, looks):
    """A rule that fits all looks; None if there is none."""
    primes = need_looks(modulus, reach, looks)
    many = 2 * reach + 1
    found = solutions(looks, many, primes)
    if found is None:
        return None
    return put_together(modulus, [terms_of(one_solution(told, many), reach) for told in found])


def how_many(modulus, reach, looks):
    """How many rules fit all looks."""
    primes = need_looks(modulus, reach, looks)
    many = 2 * reach + 1
    found = solutions(looks, many, primes)
    if found is None:
        return 0
    number = 1
    for prime, told in zip(primes, found):
        for _ in range(many - len(told[0])):
            number = number * prime
    return number


def further_rules(modulus, reach, looks):
    """A list of tuples (number, rule) of whose multiples the fitting rules are sums; None if none fits."""
    primes = need_looks(modulus, reach, looks)
    many = 2 * reach + 1
    found = solutions(looks, many, primes)
    if found is None:
        return None
    free = [free_solutions(told, many, prime) for prime, told in zip(primes, found)]
    rules = []
    for k, number in enumerate(numbers_of([len(own) for own in free], primes)):
        parts = [terms_of(own[k], reach) if k < len(own) else () for own in free]
        rules.append((number, put_together(modulus, parts)))
    return rules


def numbers_of(dimensions, primes):
    """The list of the numbers of further rules: in each, a prime with as many free offsets as stand there or more.

    A number above the modulus tells some sum twice, and each divides the one ahead: so there is no other such list.
    """
    numbers = []
    for k in range(max(dimensions)):
        number = 1
        for dimension, prime in zip(dimensions, primes):
            number = number * prime if k < dimension else number
        numbers.append(number)
    return numbers


def further_hold(modulus, reach, looks, value):
    """Whether any object is a list as further_rules tells."""
    primes = need_looks(modulus, reach, looks)
    many = 2 * reach + 1
    found = solutions(looks, many, primes)
    if found is None or not is_numbered(value, modulus):
        return False
    dimensions = [many - len(told[0]) for told in found]
    if [number for number, _ in value] != numbers_of(dimensions, primes):
        return False
    rules = [rule for _, rule in value]
    return all([holds_by(rules, looks, reach, part) for part in zip(primes, dimensions)])


def is_numbered(value, modulus):
    """Whether any object is a list of tuples of an integer and a rule of a modulus."""
    if not isinstance(value, list):
        return False
    return all([is_two(part) and is_number(part[0]) and is_rule(part[1]) and part[1][0] == modulus for part in value])


def holds_by(rules, looks, reach, part):
    """Whether modulo a prime, told with its free offsets' number, so many first rules tell all, and all fit in.

    The multiples of the first ones are told apart modulo this prime. Those of the others are told apart by the other
    prime, and move what these tell, but leave it whole.
    """
    prime, dimension = part
    rows = []
    for rule in rules:
        terms = dict(by_prime(rule, prime))
        if any([not -reach <= offset <= reach for offset in terms]):
            return False
        rows.append([terms.get(k - reach, 0) for k in range(2 * reach + 1)])
    for values, _ in looks:
        if any([sum([value * factor for value, factor in zip(values, row)]) % prime for row in rows]):
            return False
    return len(echelon(rows[:dimension], 2 * reach + 1, prime)[0]) == dimension


def refusal(modulus, reach, looks):
    """A tuple (prime, multiples) by which looks contradict; None if some rule fits."""
    primes = need_looks(modulus, reach, looks)
    many = 2 * reach + 1
    for prime in primes:
        for row in solved(looks, many, prime)[2]:
            if row[many]:
                return prime, tuple(row[many + 1:])
    return None


def refuses(modulus, reach, looks, value):
    """Whether any object is such a tuple."""
    need_looks(modulus, reach, looks)
    if not has_prime(value, modulus) or not is_remainders(value[1], len(looks), value[0]):
        return False
    prime, multiples = value
    sums = [0] * (2 * reach + 2)
    for much, (values, behind) in zip(multiples, looks):
        sums = [total + much * value for total, value in zip(sums, values + (behind,))]
    return [total % prime == 0 for total in sums] == [True] * (2 * reach + 1) + [False]


def sure_value(modulus, reach, looks, cells):
    """The value behind a step of cells that all fitting rules tell; None if they tell unlike ones."""
    primes = need_looks(modulus, reach, looks)
    many = 2 * reach + 1
    if not is_remainders(cells, many, modulus):
        raise InvalidCells(renewed(cells))
    found = solutions(looks, many, primes)
    if found is None:
        raise NoRule(renewed(looks))
    total = 0
    for prime, told in zip(primes, found):
        row = [value % prime for value in cells] + [0] * (len(looks) + 1)
        for at, pivot in zip(told[0], told[1]):
            row = cleared(row, pivot, at, prime)
        if any(row[:many]):
            return None
        total -= row[many] * one_for(prime, modulus)
    return total % modulus


def more_looks(modulus, reach, looks):
    """The least number of further looks, chosen ahead, that leave just one rule."""
    return len(next_cells(modulus, reach, looks))


def next_cells(modulus, reach, looks):
    """A list of so many tuples of cells with which just one rule is left."""
    primes = need_looks(modulus, reach, looks)
    many = 2 * reach + 1
    found = solutions(looks, many, primes)
    if found is None:
        raise NoRule(renewed(looks))
    free = [[at for at in range(many) if at not in told[0]] for told in found]
    chosen = []
    for k in range(max([len(own) for own in free])):
        units = [(own[k], one_for(prime, modulus)) for own, prime in zip(free, primes) if k < len(own)]
        chosen.append(tuple([sum([unit for at, unit in units if at == place]) % modulus for place in range(many)]))
    return chosen


def wrong_looks(modulus, reach, looks):
    """The least number of looks that have to be left out so that some one rule fits the others."""
    return len(which_wrong(modulus, reach, looks))


def which_wrong(modulus, reach, looks):
    """The first of all lists of the indexes of so many."""
    primes = need_looks(modulus, reach, looks)
    many = 2 * reach + 1
    states = []
    for prime in primes:
        rest = solved(looks, many, prime)[2]
        states.append(state_of([row[many + 1:] for row in rest], [row[many] for row in rest], len(looks), prime))
    number, found = 0, None
    while found is None:
        found = first_left_out(states, 0, number, len(looks))
        number += 1
    return found
