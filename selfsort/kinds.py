"""Strict tests of the kind of any value."""


def is_between(value, least, greatest):
    """True if the value is an integer from least to greatest."""
    # isinstance would take True and False for integers.
    return type(value) is int and least <= value <= greatest


def is_from(value, least):
    """True if the value is an integer from least on."""
    return type(value) is int and value >= least


def is_tuple_of(value, length):
    """True if the value is a tuple with so many entries."""
    return type(value) is tuple and len(value) == length


def are_all_below(value, bound):
    """True if the value is a tuple of integers from 0 to one less than the bound."""
    if type(value) is not tuple:
        return False
    for entry in value:
        if type(entry) is not int or not 0 <= entry < bound:
            return False
    return True
