"""The forms that rules, rows and programs are made of, and objects built anew for errors."""


def is_number(value):
    """Whether any object is an integer."""
    return isinstance(value, int) and not isinstance(value, bool)


def is_within(value, least, greatest):
    """Whether any object is an integer from the least to the greatest one."""
    return is_number(value) and least <= value <= greatest


def is_two(value):
    """Whether any object is a tuple of two parts."""
    return isinstance(value, tuple) and len(value) == 2


def ascends(numbers):
    """Whether each number of a list is above the one ahead of it."""
    return all([low < high for low, high in zip(numbers, numbers[1:])])


def is_pairs(value, modulus):
    """Whether any object is a tuple of tuples of an integer, ascending, and one from 1 to modulus - 1."""
    if not isinstance(value, tuple):
        return False
    if not all([is_two(pair) and is_number(pair[0]) and is_within(pair[1], 1, modulus - 1) for pair in value]):
        return False
    return ascends([pair[0] for pair in value])


def is_remainders(value, many, modulus):
    """Whether any object is a tuple of so many integers from 0 to modulus - 1."""
    if not isinstance(value, tuple) or len(value) != many:
        return False
    return all([is_within(part, 0, modulus - 1) for part in value])


def renewed(value):
    """Any object with each list and tuple in it built anew, so that an error shares none with the caller."""
    if isinstance(value, list):
        return [renewed(part) for part in value]
    if isinstance(value, tuple):
        return tuple([renewed(part) for part in value])
    return value
