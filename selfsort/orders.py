"""Orders of 2, 3 or 4 items, and moving an item within one."""

from itertools import permutations

from selfsort.kinds import are_all_below, is_between
from selfsort.wrongs import NoItem, NoItems, NoOrder, NoPlace

LEAST_ITEMS = 2
MOST_ITEMS = 4


def is_number_of_items(value):
    """True if the value is a number of items."""
    return is_between(value, LEAST_ITEMS, MOST_ITEMS)


def require_items(items):
    """Raise NoItems if items is not a number of items."""
    if not is_number_of_items(items):
        raise NoItems("a number of items is 2, 3 or 4")


def require_item(items, item):
    """Raise NoItem if item is not one of so many items."""
    if not is_between(item, 0, items - 1):
        raise NoItem("an item is an integer from 0 to one less than the number of items")


def holds_all_items(items, value):
    """True if the value is a tuple of all of so many items, each once."""
    # A set takes True for 1 and no list at all, so the kinds are settled before it is made.
    return are_all_below(value, items) and len(value) == items and len(set(value)) == items


def is_order(items, value):
    """True if the value is an order of so many items."""
    require_items(items)
    return holds_all_items(items, value)


def require_order(order):
    """Raise NoOrder if order is not an order of 2, 3 or 4 items."""
    if type(order) is not tuple or not is_number_of_items(len(order)) or not holds_all_items(len(order), order):
        raise NoOrder("an order is a tuple of all of 2, 3 or 4 items, each once")


def require_order_of(items, order):
    """Raise NoOrder if order is not an order of so many items."""
    if not holds_all_items(items, order):
        raise NoOrder("an order is a tuple of all items, each once")


def all_orders(items):
    """The ascending list of all orders of so many items."""
    require_items(items)
    return list(permutations(range(items)))


def place_of(order, item):
    """The place of the item in the order."""
    require_order(order)
    require_item(len(order), item)
    return order.index(item)


def shifted(order, own_place, place):
    """The order behind moving the item at its own place to a place that is not greater."""
    return order[:place] + order[own_place:own_place + 1] + order[place:own_place] + order[own_place + 1:]


def moved(order, item, place):
    """The order behind moving the item to the place."""
    own_place = place_of(order, item)
    if not is_between(place, 0, own_place):
        raise NoPlace("an item moves to a place from 0 to its own")
    return shifted(order, own_place, place)
