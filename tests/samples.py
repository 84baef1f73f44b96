"""Values for the tests: odd ones, and ones that are near a right one."""


def nested(depth, kind):
    """A tuple or list that is nested so deep."""
    value = kind()
    for _ in range(depth):
        value = kind([value])
    return value


def odd_values():
    """Values of many kinds, none of which is an integer from 0 to 4, an order, a rule or a rule's name."""
    return [
        -1, 5, 10 ** 19999, -(10 ** 19999), True, False, None, "", "0", "2", "Front", "front ", "x" * 20000,
        (), [], (None,), ("front",), ["front"], (2,), [2], ((0, 1),), [[0, 1]], (0, True), (False, 1), (0, "1"),
        (0, None), [0, 1], [0, 1, 2], (0, [1]), ((0,), (1,)), (1, 2), (0, 1, 3), (0, 0), (0,), (0, 1, 2, 3, 4),
        tuple(range(20000)), list(range(20000)), (0,) * 20000,
        nested(30, tuple), nested(30, list), nested(60, tuple), nested(60, list),
    ]


def strictly(value):
    """A text that is the same only for equal values of the same kinds throughout."""
    if isinstance(value, (tuple, list)):
        return type(value).__name__ + "(" + " ".join([strictly(entry) for entry in value]) + ")"
    if type(value) is int:
        # Python refuses to write very long integers in tens.
        return hex(value)
    return repr(value)


def near_integer(value):
    """What might be taken for the integer, and the integers beside it."""
    return [value - 1, value + 1, -value - 1, True, False, None, str(value), (value,), [value], (), 10 ** 5000]


def near_tuple(value):
    """What might be taken for the tuple, and tuples that are like it."""
    parts = [list(value), value[:-1], value[1:], value + value[-1:], value[:1] + value, value[::-1], (value,), [value]]
    parts += [(), [], None, True, 0, 1, "".join(["x"] * len(value)), value + (0,), value + ((),)]
    for index, entry in enumerate(value):
        parts += [value[:index] + (other,) + value[index + 1:] for other in near(entry)]
    return parts


def near(value):
    """Values near a value of integers and tuples: each part exchanged, left out, put in or turned round."""
    if isinstance(value, tuple):
        return near_tuple(value)
    return near_integer(value)


def unchanged_by(call, *arguments):
    """True if the call, which may raise an error, leaves its arguments as they were."""
    before = strictly(arguments)
    try:
        call(*arguments)
    except ValueError:
        pass
    return before == strictly(arguments)
