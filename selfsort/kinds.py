"""Strict tests of the kind of any value."""


def is_between(value, least, greatest):
    """True if the value is an integer from least to greatest."""
    # isinstance would take True and False for integers.
    return type(value) is int and least <= value <= greatest


def is_tuple_of(value, length):
    """True if the value is a tuple with so many entries."""
    return type(value) is tuple and len(value) == length
