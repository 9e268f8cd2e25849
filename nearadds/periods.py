"""How many round rows come again first behind how many steps, modulo a prime p.

Round rows with n values are polynomials where x ** n is 1: so they are made up, independently, of remainders by the
greatest powers of prime factors that divide x ** n - 1. By such a power of g, a polynomial that g does not divide
comes round; the remainders that its power to d leaves as they are, are those of which that power less 1 makes 0.
"""

from math import lcm

from nearadds.circles import share_of, stepped, whole_of
from nearadds.factors import divisors_of
from nearadds.polys import divided, multiplied, product_of, trimmed
from nearadds.splitting import prime_factors, taken_out


def both_lengths(numbers, told):
    """The dict, by lengths, of the numbers of pairs of rows, each of one of two such dicts."""
    pairs = {}
    for length, number in numbers.items():
        for turns, often in told.items():
            both = lcm(length, turns)
            pairs[both] = pairs.get(both, 0) + number * often
    return pairs


def rest_power(poly, times, whole, prime):
    """What a polynomial leaves of a power, from 1 on, of another one."""
    made = [1]
    for at in reversed(range(times.bit_length())):
        made = divided(multiplied(made, made, prime), whole, prime)[1]
        if times >> at & 1:
            made = divided(multiplied(made, poly, prime), whole, prime)[1]
    return made


def power_to(number, times):
    """The power of a number to a number from 0 on."""
    made = 1
    for _ in range(times):
        made = made * number
    return made


def first_turns(poly, part, prime):
    """The least power from 1 on of a polynomial that leaves 1 by a prime factor, which does not divide it."""
    turns = power_to(prime, len(part) - 1) - 1
    for divisor in divisors_of(turns):
        while turns % divisor == 0 and rest_power(poly, turns // divisor, part, prime) == [1]:
            turns = turns // divisor
    return turns


def lengths_by_part(poly, part, share, prime):
    """The dict, by lengths, of how many remainders by a prime factor to the share come again first behind so many."""
    numbers = {1: 1}
    if not divided(poly, part, prime)[1]:
        return numbers
    whole = product_of([(part, share)], prime)
    length, told = first_turns(poly, part, prime), 1
    power = rest_power(poly, length, whole, prime)
    most = power_to(prime, len(whole) - 1)
    while told < most:
        less = trimmed([power[0] - 1] + power[1:], prime)
        # What is left by the whole is 0 or has the part less often than the whole.
        often = taken_out(less, part, prime)[0] if less else share
        number = power_to(prime, (len(part) - 1) * often)
        numbers[length] = numbers.get(length, 0) + number - told
        told = number
        power = rest_power(power, prime, whole, prime)
        length = length * prime
    return numbers


def lengths_modulo(terms, many, prime):
    """The dict, by lengths, of how many round rows with so many values come again first behind so many steps."""
    share = share_of(many, prime)
    # What a step leaves of the row with the one value 1 is multiplied by each row to tell what it leaves of that.
    poly = trimmed(stepped(terms, [1] + [0] * (many - 1), 1, prime), prime)
    numbers = {1: 1}
    for part, _ in prime_factors(whole_of(many // share, prime), prime):
        numbers = both_lengths(numbers, lengths_by_part(poly, part, share, prime))
    return numbers
