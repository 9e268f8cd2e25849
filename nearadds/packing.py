"""Lists of numbers from 0 on as one great number: a product of two such is that of the lists as polynomials.

Python multiplies great numbers far faster than a loop multiplies lists. Each number of a list has a share of so
many binary figures that no sum runs over into the next share.
"""


def width_for(prime, many):
    """As many binary figures as a sum of so many products of two remainders by the prime may have."""
    return ((prime - 1) ** 2 * many).bit_length()


def packed(values, width):
    """The great number in which each number of a list, the first one lowest, has a share of this width."""
    while len(values) > 1:
        if len(values) % 2:
            values = values + [0]
        values = [low | high << width for low, high in zip(values[::2], values[1::2])]
        width = width * 2
    return values[0] if values else 0


def unpacked(number, many, width):
    """The list of the numbers in the lowest shares, so many, of a great number."""
    values = [number & ((1 << many * width) - 1)]
    shares = [width]
    while 1 << (len(shares) - 1) < many:
        shares.append(2 * shares[-1])
    for share in reversed(shares[:-1]):
        mask = (1 << share) - 1
        values = [half for value in values for half in (value & mask, value >> share)]
    return values[:many]
