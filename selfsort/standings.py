"""Standings of a rule, asks for items, and stores whose items are asked for."""

from selfsort.kinds import are_all_below, is_tuple_of
from selfsort.orders import all_orders, holds_all_items, require_item, shifted
from selfsort.rules import require_rule
from selfsort.wrongs import NoAsks, NoStanding


def stands_by(rule, value):
    """True if the value is a standing of the rule, which is known to be one."""
    if not is_tuple_of(value, 2):
        return False
    order, flags = value
    return holds_all_items(rule[0], order) and are_all_below(flags, rule[1]) and len(flags) == rule[0]


def is_standing(rule, value):
    """True if the value is a standing of the rule."""
    require_rule(rule)
    return stands_by(rule, value)


def require_standing(rule, standing):
    """Raise NoRule or NoStanding if the standing is not one of the rule."""
    if not is_standing(rule, standing):
        raise NoStanding("a standing is a tuple (order, flags) of the rule")


def require_asks(items, asks):
    """Raise NoAsks if asks is not a tuple of some of so many items."""
    if not are_all_below(asks, items):
        raise NoAsks("asks are a tuple of items")


def all_flags(items, flags):
    """The ascending list of the tuples with a flag for each of so many items."""
    rows = [()]
    for _ in range(items):
        rows = [row + (flag,) for row in rows for flag in range(flags)]
    return rows


def all_standings(rule):
    """The ascending list of the standings of the rule."""
    require_rule(rule)
    rows = all_flags(rule[0], rule[1])
    return [(order, row) for order in all_orders(rule[0]) for row in rows]


def asked_once(rule, standing, item):
    """The tuple (depth, standing behind the ask), of what is known to be a rule, a standing and an item."""
    order, flags = standing
    depth = order.index(item)
    place, flag = rule[2][depth][flags[item]]
    return (depth, (shifted(order, depth, place), flags[:item] + (flag,) + flags[item + 1:]))


def asked_in_turn(rule, standing, asks):
    """The tuple (list of the depths, standing behind the asks), of what is known to be of these kinds."""
    depths = []
    now = standing
    for item in asks:
        depth, now = asked_once(rule, now, item)
        depths.append(depth)
    return (depths, now)


def ask(rule, standing, item):
    """The tuple (depth, standing behind the ask) for the item."""
    require_standing(rule, standing)
    require_item(rule[0], item)
    return asked_once(rule, standing, item)


def run(rule, standing, asks):
    """The tuple (list of the depths, standing behind the asks)."""
    require_standing(rule, standing)
    require_asks(rule[0], asks)
    return asked_in_turn(rule, standing, asks)


class Store:
    """A list with a rule and a standing, which changes with each ask."""

    def __init__(self, rule, standing):
        require_standing(rule, standing)
        self._rule = rule
        self._standing = standing
        self._asked = []

    def ask(self, item):
        """Ask for the item and return its depth."""
        require_item(self._rule[0], item)
        depth, turned = asked_once(self._rule, self._standing, item)
        self._standing = turned
        self._asked.append((item, depth))
        return depth

    def rule(self):
        """The rule of the store."""
        return self._rule

    def standing(self):
        """The standing now."""
        return self._standing

    def asked(self):
        """The list of the tuples (item, depth) of all asks so far."""
        return list(self._asked)
