"""Polynomials modulo a prime as single great numbers, with which Python works far faster than with lists.

The coefficients stand side by side, the one of the power 0 lowest, each in a lane of as many hexadecimal figures. A
product of two such numbers is that of the polynomials; then each lane is made its remainder, all lanes at once. A
remainder is one figure: so a text of figures, that of the power 0 first, tells a polynomial, too.
"""

FIGURES = "0123456789abc"


class Lanes:
    """Lanes for sums of at most so many products of two remainders by a prime."""

    def __init__(self, prime, most):
        greatest = (prime - 1) ** 2 * most + prime
        self.prime = prime
        self.figures = greatest.bit_length() // 4 + 1
        self.width = 4 * self.figures
        # By two lanes: as many figures as here are enough that share, shifted, tells how often the prime is in a lane.
        self.shift = (greatest * prime).bit_length()
        self.share = (1 << self.shift) // prime + 1
        self._spread_to(64)

    def _spread_to(self, pairs):
        """Makes the numbers that pick parts of so many pairs of lanes."""
        ones = ((1 << 2 * self.width * pairs) - 1) // ((1 << 2 * self.width) - 1)
        self.pairs = pairs
        self.evens = ones * ((1 << self.width) - 1)
        self.often = ones * ((1 << (2 * self.width - self.shift)) - 1)

    def _rests(self, number):
        """Each second lane's remainder, the others being 0."""
        return number - (number * self.share >> self.shift & self.often) * self.prime

    def reduced(self, number):
        """The number with the remainder in each lane."""
        if number.bit_length() > 2 * self.width * self.pairs:
            self._spread_to(number.bit_length() // self.width)
        evens, odds = number & self.evens, number >> self.width & self.evens
        return self._rests(evens) | self._rests(odds) << self.width

    def multiplied(self, one, other):
        """The product of two polynomials."""
        return self.reduced(one * other)

    def number(self, text, stretch):
        """The number of a text of figures, each power made so many times as great."""
        gap = "0" * (self.figures * stretch - 1)
        return int("0" + gap.join(text[::-1]), 16)

    def text(self, number, first, by):
        """The text of the coefficients of a number from a power on, one for each so many powers."""
        figures = f"{number:x}"
        return figures[-1 - first * self.figures::-by * self.figures]


def text_of(values):
    """The text of a list of remainders."""
    return "".join([FIGURES[value] for value in values])


def values_of(text):
    """The list of the remainders of a text."""
    return [int(figure, 16) for figure in text]
