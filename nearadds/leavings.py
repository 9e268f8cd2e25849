"""What a polynomial modulo a prime p leaves of powers of x."""

from nearadds.lanes import Lanes, text_of, values_of
from nearadds.polys import figures, monic, times_x


class Leavings:
    """What a polynomial with two coefficients or more, the first one not 0, leaves of powers of x.

    It is told as a list of remainders, one less than the polynomial has coefficients.
    """

    def __init__(self, poly, prime):
        self.poly = monic(poly, prime)
        self.prime = prime
        self.one = [1] + [0] * (len(poly) - 2)
        # Modulo p, g(x) ** p is g(x ** p): so what is left of each x ** (p * k) tells how any power to p goes on.
        self.lanes = Lanes(prime, len(poly) - 1)
        self.numbers = []
        row = self.one
        for _ in self.one:
            self.numbers.append(self.lanes.number(text_of(row), 1))
            row = self.further(row, prime)

    def further(self, row, by):
        """What is left of x to a power from 0 on, multiplied by what is left already."""
        for _ in range(by):
            row = times_x(row, self.poly, self.prime)
        return row

    def power(self, times):
        """What is left of x to a power from 0 on."""
        row = self.one
        for figure in figures(times, self.prime)[::-1]:
            number = sum([value * other for value, other in zip(row, self.numbers)])
            left = values_of(self.lanes.text(self.lanes.reduced(number), 0, 1))
            row = self.further(left + [0] * (len(row) - len(left)), figure)
        return row
