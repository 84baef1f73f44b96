"""What is sure of the order, whichever case of a lot holds."""

from selfsort.lots import require_lot


def orders_of(lot):
    """The list of the orders of the lot's cases."""
    return [standing[0] for _, standing in lot]


def stands_ahead(orders, item, other):
    """True if the item stands ahead of the other one in each of the orders."""
    return all([order.index(item) < order.index(other) for order in orders])


def sure_pairs(rules, lot):
    """The ascending list of the tuples (item, other) of which the first surely stands ahead of the other one."""
    require_lot(rules, lot)
    orders = orders_of(lot)
    items = range(rules[0][0])
    return [(item, other) for item in items for other in items if stands_ahead(orders, item, other)]


def sure_place(orders, item):
    """The place of the item if it is the same in each of the orders, otherwise None."""
    place = orders[0].index(item)
    return place if all([order.index(item) == place for order in orders]) else None


def sure_places(rules, lot):
    """The list with, for each item, its sure place, or None if none is sure."""
    require_lot(rules, lot)
    orders = orders_of(lot)
    return [sure_place(orders, item) for item in range(rules[0][0])]
