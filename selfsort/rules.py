"""Rules: where a list moves an item that is asked for, and the flag it bears then."""

from selfsort.kinds import is_between, is_tuple_of
from selfsort.orders import is_number_of_items, require_items
from selfsort.wrongs import NoName, NoRule

MOST_FLAGS = 2
NAMES = ("front", "ahead", "still", "half", "second")


def is_entry(value, place, flags):
    """True if the value is a tuple (to, flag) for this place."""
    if not is_tuple_of(value, 2):
        return False
    return is_between(value[0], 0, place) and is_between(value[1], 0, flags - 1)


def is_row(value, place, flags):
    """True if the value has an entry for each flag at this place."""
    return is_tuple_of(value, flags) and all([is_entry(entry, place, flags) for entry in value])


def is_table(value, items, flags):
    """True if the value has a row for each place of so many items."""
    return is_tuple_of(value, items) and all([is_row(row, place, flags) for place, row in enumerate(value)])


def is_rule(value):
    """True if the value is a rule."""
    if not is_tuple_of(value, 3):
        return False
    items, flags, table = value
    return is_number_of_items(items) and is_between(flags, 1, MOST_FLAGS) and is_table(table, items, flags)


def require_rule(rule):
    """Raise NoRule if rule is not a rule."""
    if not is_rule(rule):
        raise NoRule("a rule is a tuple (items, flags, table)")


def goes_to(name, place):
    """Where an item at the place goes by the rule of this name that has one flag."""
    if name == "front":
        return 0
    if name == "ahead":
        return max(place - 1, 0)
    if name == "half":
        return place // 2
    return place


def named_rule(items, value):
    """The named rule of so many items whose name the value is."""
    require_items(items)
    if value not in NAMES:
        raise NoName("a rule is called front, ahead, still, half or second")
    if value == "second":
        return (items, 2, tuple([((place, 1), (0, 0)) for place in range(items)]))
    return (items, 1, tuple([((goes_to(value, place), 0),) for place in range(items)]))
