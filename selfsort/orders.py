"""Orders of 2, 3 or 4 items, and moving an item within one."""

from itertools import permutations

from selfsort.kinds import is_between, is_tuple_of
from selfsort.wrongs import NoItem, NoItems, NoOrder, NoPlace

LEAST_ITEMS = 2
MOST_ITEMS = 4


def is_number_of_items(value):
    """True if the value is a number of items."""
    return is_between(value, LEAST_ITEMS, MOST_ITEMS)


def require_items(items):
    """Raise NoItems if items is not a number of items."""
    if not is_number_of_items(items):
        raise NoItems("a number of items is 2, 3 or 4")


def require_item(items, item):
    """Raise NoItem if item is not one of so many items."""
    if not is_between(item, 0, items - 1):
        raise NoItem("an item is an integer from 0 to one less than the number of items")


def is_order(items, value):
    """True if the value is an order of so many items."""
    require_items(items)
    if not is_tuple_of(value, items):
        return False
    # A set takes True for 1 and no list at all, so the kinds are settled before it is made.
    if not all([is_between(entry, 0, items - 1) for entry in value]):
        return False
    return len(set(value)) == items


def require_order(order):
    """Raise NoOrder if order is not an order of 2, 3 or 4 items."""
    if type(order) is not tuple or not is_number_of_items(len(order)) or not is_order(len(order), order):
        raise NoOrder("an order is a tuple of all of 2, 3 or 4 items, each once")


def all_orders(items):
    """The ascending list of all orders of so many items."""
    require_items(items)
    return list(permutations(range(items)))


def place_of(order, item):
    """The place of the item in the order."""
    require_order(order)
    require_item(len(order), item)
    return order.index(item)


def moved(order, item, place):
    """The order behind moving the item to the place."""
    own_place = place_of(order, item)
    if not is_between(place, 0, own_place):
        raise NoPlace("an item moves to a place from 0 to its own")
    rest = [other for other in order if other != item]
    rest.insert(place, item)
    return tuple(rest)
