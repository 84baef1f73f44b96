"""Costs of trees: an ask costs one more than the depth that it tells."""

from selfsort.goals import require_lot_and_goal
from selfsort.papers import is_paper_above, paper_above, require_number
from selfsort.trees import least_of_trees, tree_of_least, worst_or_none
from selfsort.worsts import COSTS


def least_cost(rules, lot, goal):
    """The least cost at worst of a tree, or None if there is no tree."""
    require_lot_and_goal(rules, lot, goal)
    return least_of_trees(rules, lot, goal, COSTS)


def cheapest_tree(rules, lot, goal):
    """A tree of the least cost at worst, or None if there is no tree."""
    require_lot_and_goal(rules, lot, goal)
    return tree_of_least(rules, lot, goal, COSTS)


def cost_of(rules, lot, goal, value):
    """The cost at worst of the value, or None if it is not a tree."""
    require_lot_and_goal(rules, lot, goal)
    return worst_or_none(rules, lot, goal, value, COSTS)


def dear_paper(rules, lot, goal, k):
    """A dear paper of the lot, the goal and k, or None if there is a tree that costs k or less at worst."""
    require_lot_and_goal(rules, lot, goal)
    require_number(k)
    return paper_above(rules, lot, goal, k, COSTS)


def is_dear(rules, lot, goal, k, value):
    """True if the value is a dear paper of the lot, the goal and k."""
    require_lot_and_goal(rules, lot, goal)
    require_number(k)
    return is_paper_above(rules, lot, goal, k, value, COSTS)
