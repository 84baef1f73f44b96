"""Goals of rules, and whether a lot reaches them."""

from selfsort.kinds import is_between, is_tuple_of
from selfsort.lots import require_lot, require_rules
from selfsort.orders import holds_all_items
from selfsort.wrongs import NoGoal

GOALS_OF_ONE_WORD = (("order",), ("rule",), ("case",))


def is_goal_of(items, value):
    """True if the value is a goal of rules with so many items."""
    if type(value) is not tuple:
        return False
    if is_tuple_of(value, 2) and value[0] == "sorted":
        return holds_all_items(items, value[1])
    if is_tuple_of(value, 2) and value[0] == "front":
        return is_between(value[1], 0, items - 1)
    return value in GOALS_OF_ONE_WORD


def is_goal(rules, value):
    """True if the value is a goal of the rules."""
    require_rules(rules)
    return is_goal_of(rules[0][0], value)


def require_lot_and_goal(rules, lot, goal):
    """Raise NoRules, NoLot or NoGoal, the first of them that is due."""
    require_lot(rules, lot)
    if not is_goal_of(rules[0][0], goal):
        raise NoGoal("a goal is order, sorted, rule, case or front, in a tuple with what belongs to it")


def meets(lot, goal):
    """True if the lot, known to be one, reaches the goal, known to be one of its rules."""
    word = goal[0]
    orders = [standing[0] for _, standing in lot]
    if word == "order":
        return all([order == orders[0] for order in orders])
    if word == "sorted":
        return all([order == goal[1] for order in orders])
    if word == "rule":
        return all([number == lot[0][0] for number, _ in lot])
    if word == "case":
        return len(lot) == 1
    return all([order[0] == goal[1] for order in orders])


def reaches(rules, lot, goal):
    """True if the lot reaches the goal."""
    require_lot_and_goal(rules, lot, goal)
    return meets(lot, goal)
