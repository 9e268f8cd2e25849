"""Rules, rows and programs: what they are, and what steps make of them."""

from nearadds.errors import InvalidModulus, InvalidNumber, InvalidProgram, InvalidRound, InvalidRow, InvalidRule, Unlike
from nearadds.forms import is_number, is_pairs, is_two, is_within, renewed

PRIMES = {2: (2,), 3: (3,), 5: (5,), 6: (2, 3), 7: (7,), 10: (2, 5), 11: (11,), 13: (13,), 14: (2, 7), 15: (3, 5)}
MOST_TIMES = 10 ** 30
MOST_POWER = 40


def is_modulus(value):
    """Whether any object is a modulus."""
    return is_number(value) and value in PRIMES


def has_modulus(value):
    """Whether any object is a tuple of a modulus and one part more."""
    return is_two(value) and is_modulus(value[0])


def has_prime(value, modulus):
    """Whether any object is a tuple of a prime of a modulus and one part more."""
    return is_two(value) and is_number(value[0]) and value[0] in PRIMES[modulus]


def is_rule(value):
    """Whether any object is a rule."""
    return has_modulus(value) and is_pairs(value[1], value[0])


def is_row(value):
    """Whether any object is a finite row."""
    return has_modulus(value) and is_pairs(value[1], value[0])


def is_round(value):
    """Whether any object is a round row."""
    if not has_modulus(value) or not isinstance(value[1], tuple):
        return False
    return len(value[1]) > 0 and all([is_within(rest, 0, value[0] - 1) for rest in value[1]])


def is_program(value):
    """Whether any object is a program."""
    if not has_modulus(value) or not isinstance(value[1], tuple):
        return False
    return all([is_doing(step_told, value[0]) for step_told in value[1]])


def is_doing(value, modulus):
    """Whether any object is a tuple (terms, times) as steps of programs of a modulus are."""
    return is_two(value) and is_pairs(value[0], modulus) and is_within(value[1], 0, MOST_TIMES)


def need_rule(value):
    """Refuses any object that is no rule."""
    if not is_rule(value):
        raise InvalidRule(renewed(value))


def need_row(value):
    """Refuses any object that is no finite row."""
    if not is_row(value):
        raise InvalidRow(renewed(value))


def need_round(value):
    """Refuses any object that is no round row."""
    if not is_round(value):
        raise InvalidRound(renewed(value))


def need_program(value):
    """Refuses any object that is no program."""
    if not is_program(value):
        raise InvalidProgram(renewed(value))


def need_same(one, other):
    """Refuses two values with unlike moduli."""
    if one[0] != other[0]:
        raise Unlike(other[0])


def need_rules(one, other):
    """Refuses two objects that are not two rules of one modulus."""
    need_rule(one)
    need_rule(other)
    need_same(one, other)


def need_programs(one, other):
    """Refuses two objects that are not two programs of one modulus."""
    need_program(one)
    need_program(other)
    need_same(one, other)


def primes_of(modulus):
    """The ascending list of the primes of a modulus."""
    if not is_modulus(modulus):
        raise InvalidModulus(modulus)
    return list(PRIMES[modulus])


def still(modulus):
    """The rule that leaves all as it is."""
    if not is_modulus(modulus):
        raise InvalidModulus(modulus)
    return modulus, ((0, 1),)


def left_of(sums, modulus):
    """The ascending tuple of the pairs of a dict of sums that the modulus leaves."""
    return tuple([(place, sums[place] % modulus) for place in sorted(sums) if sums[place] % modulus])


def sums_of(one, other):
    """The dict of the sums of two tuples of pairs."""
    sums = {}
    for place, value in one + other:
        sums[place] = sums.get(place, 0) + value
    return sums


def products_of(one, other):
    """The dict of the sums that two tuples of pairs make, multiplied as polynomials are."""
    sums = {}
    for place, value in one:
        for offset, factor in other:
            sums[place + offset] = sums.get(place + offset, 0) + value * factor
    return sums


def plus(one, other):
    """The rule whose step makes each cell the sum of what the steps of two rules make."""
    need_rules(one, other)
    return one[0], left_of(sums_of(one[1], other[1]), one[0])


def behind(one, other):
    """The rule of doing one rule and then the other one."""
    need_rules(one, other)
    return one[0], left_of(products_of(one[1], other[1]), one[0])


def power(rule, times):
    """The rule of doing a rule so many times, from 0 to 40."""
    need_rule(rule)
    if not 0 <= times <= MOST_POWER:
        raise InvalidNumber(times)
    made = still(rule[0])
    # From the highest binary figure on: so no square is made that is not needed.
    for at in reversed(range(times.bit_length())):
        made = behind(made, made)
        if times >> at & 1:
            made = behind(made, rule)
    return made


def by_prime(rule, prime):
    """The ascending tuple of the terms that are left of a rule modulo a prime of its modulus."""
    need_rule(rule)
    if prime not in primes_of(rule[0]):
        raise InvalidNumber(prime)
    return tuple([(offset, factor % prime) for offset, factor in rule[1] if factor % prime])


def one_for(prime, modulus):
    """The remainder that is 1 modulo this prime of a modulus and 0 modulo the other one."""
    return [rest for rest in range(0, modulus, modulus // prime) if rest % prime == 1][0]


def is_parts(value, primes):
    """Whether any object is a list that has for each prime a tuple as by_prime tells."""
    if not isinstance(value, list) or len(value) != len(primes):
        return False
    return all([is_pairs(terms, prime) for terms, prime in zip(value, primes)])


def put_together(modulus, parts):
    """The rule that leaves these parts modulo the primes of a modulus."""
    primes = primes_of(modulus)
    if not is_parts(parts, primes):
        raise InvalidRule(renewed(parts))
    terms = ()
    for prime, part in zip(primes, parts):
        unit = one_for(prime, modulus)
        terms = left_of(sums_of(terms, tuple([(offset, factor * unit) for offset, factor in part])), modulus)
    return modulus, terms


def step(rule, row):
    """The finite row behind one step."""
    need_rule(rule)
    need_row(row)
    need_same(rule, row)
    return row_behind(rule, row)


def row_behind(rule, row):
    """The same of two that are known to be a rule and a finite row of one modulus."""
    # A cell at a place is added to the cells at the place less each offset.
    back = [(-offset, factor) for offset, factor in rule[1]]
    return row[0], left_of(products_of(row[1], back), row[0])


def round_step(rule, row):
    """The round row, with as many values, behind one step of a round row."""
    need_rule(rule)
    need_round(row)
    need_same(rule, row)
    modulus, values = row
    many = len(values)
    sums = [sum([factor * values[(i + offset) % many] for offset, factor in rule[1]]) for i in range(many)]
    return modulus, tuple([total % modulus for total in sums])


def added(one, other):
    """The finite row whose cells are the sums of those of two."""
    need_row(one)
    need_row(other)
    need_same(one, other)
    return one[0], left_of(sums_of(one[1], other[1]), one[0])
