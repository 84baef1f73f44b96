"""Values for the tests: odd ones, ones that are near a right one, and drawn ones."""


def nested(depth, kind):
    """A tuple or list that is nested so deep."""
    value = kind()
    for _ in range(depth):
        value = kind([value])
    return value


def odd_values():
    """Values of many kinds, none of which is an integer from 0 to 4, an order, a rule or a rule's name."""
    return [
        -1, 5, 10 ** 19999, -(10 ** 19999), True, False, None, "", "0", "2", "Front", "front ", "x" * 20000,
        (), [], (None,), ("front",), ["front"], (2,), [2], ((0, 1),), [[0, 1]], (0, True), (False, 1), (0, "1"),
        (0, None), [0, 1], [0, 1, 2], (0, [1]), ((0,), (1,)), (1, 2), (0, 1, 3), (0, 0), (0,), (0, 1, 2, 3, 4),
        tuple(range(20000)), list(range(20000)), (0,) * 20000,
        nested(30, tuple), nested(30, list), nested(60, tuple), nested(60, list),
    ]


def strictly(value):
    """A text that is the same only for equal values of the same kinds throughout."""
    if isinstance(value, (tuple, list)):
        return type(value).__name__ + "(" + " ".join([strictly(entry) for entry in value]) + ")"
    if type(value) is int:
        # Python refuses to write very long integers in tens.
        return hex(value)
    return repr(value)


def near_integer(value):
    """What might be taken for the integer, and the integers beside it."""
    return [value - 1, value + 1, -value - 1, True, False, None, str(value), (value,), [value], (), 10 ** 5000]


def near_text(value):
    """What might be taken for the text, and texts that are like it."""
    return [value[:-1], value + " ", value.upper(), value + value, "", (value,), [value], list(value), 0, True, None]


def near_tuple(value):
    """What might be taken for the tuple, and tuples that are like it."""
    parts = [list(value), value[:-1], value[1:], value + value[-1:], value[:1] + value, value[::-1], (value,), [value]]
    parts += [(), [], None, True, 0, 1, "".join(["x"] * len(value)), value + (0,), value + ((),)]
    for index, entry in enumerate(value):
        parts += [value[:index] + (other,) + value[index + 1:] for other in near(entry)]
    return parts


def near(value):
    """Values near a value of integers, texts and tuples: each part exchanged, left out, put in or turned round."""
    if isinstance(value, tuple):
        return near_tuple(value)
    if isinstance(value, str):
        return near_text(value)
    return near_integer(value)


def near_paper(paper):
    """Values near a paper: entries left out, put in, bent, turned round, and the paper as another kind."""
    found = [tuple(paper), [paper], (paper,), None, True, 0, "", (), [], [()], [None], [0], [[]], paper + [()]]
    found += [paper + [None], paper + [True], paper + [paper], paper[::-1], paper + paper, paper + [nested(60, tuple)]]
    found += [paper[:index] + paper[index + 1:] for index in range(len(paper))]
    for index, entry in enumerate(paper):
        found += [paper[:index] + [other] + paper[index + 1:] for other in near(entry)]
    return found


def unchanged_by(call, *arguments):
    """True if the call, which may raise an error, leaves its arguments as they were."""
    before = strictly(arguments)
    try:
        call(*arguments)
    except ValueError:
        pass
    return before == strictly(arguments)


class Draw:
    """Drawn things, the same ones for the same start on every machine."""

    def __init__(self, start):
        self.state = start

    def below(self, bound):
        """An integer from 0 to one less than the bound."""
        self.state = (self.state * 6364136223846793005 + 1442695040888963407) % 2 ** 64
        return (self.state >> 33) % bound

    def one(self, values):
        """One of the values."""
        return values[self.below(len(values))]

    def some(self, values, many):
        """So many of the values, or all of them if they are not so many, in some order."""
        left = list(values)
        return [left.pop(self.below(len(left))) for _ in range(min(many, len(left)))]

    def rule(self, items, flags):
        """A rule of so many items and flags."""
        rows = [[(self.below(place + 1), self.below(flags)) for _ in range(flags)] for place in range(items)]
        return (items, flags, tuple([tuple(row) for row in rows]))

    def rules(self, items, many):
        """So many rules of so many items, each with one or two flags."""
        return tuple([self.rule(items, 1 + self.below(2)) for _ in range(many)])

    def asks(self, items, many):
        """A tuple of so many items."""
        return tuple([self.below(items) for _ in range(many)])

    def goal(self, items):
        """A goal of rules with so many items."""
        sorted_goal = ("sorted", tuple(self.some(range(items), items)))
        return self.one([("order",), sorted_goal, ("rule",), ("case",), ("front", self.below(items))])
