"""Trees of asks that reach a goal whatever case of the lot it is."""

from selfsort.goals import meets, require_lot_and_goal
from selfsort.kinds import is_between, is_tuple_of
from selfsort.webs import Turns, Web
from selfsort.worsts import ASKS, first_item, least_worsts, trees_of


def least_of_trees(rules, lot, goal, prices):
    """The least that a tree counts at worst by these prices, or None; all is known to be of the right kinds."""
    return least_worsts(Web(rules, lot), goal, prices)[0]


def tree_of_least(rules, lot, goal, prices):
    """A tree that counts the least at worst by these prices, or None; all is known to be of the right kinds."""
    web = Web(rules, lot)
    return trees_of(web, least_worsts(web, goal, prices), prices).get(0)


def least_asks(rules, lot, goal):
    """The least height of a tree, or None if there is no tree."""
    require_lot_and_goal(rules, lot, goal)
    return least_of_trees(rules, lot, goal, ASKS)


def best_tree(rules, lot, goal):
    """A tree of the least height, or None if there is no tree."""
    require_lot_and_goal(rules, lot, goal)
    return tree_of_least(rules, lot, goal, ASKS)


def first_of_best(rules, lot, goal):
    """The least item with which a tree of the least height can begin, or None if the lot needs or has no tree."""
    require_lot_and_goal(rules, lot, goal)
    web = Web(rules, lot)
    heights = least_worsts(web, goal, ASKS)
    if heights[0] is None or heights[0] == 0:
        return None
    return first_item(heights, web.steps[0], heights[0], ASKS)


def is_branch(value, answer):
    """True if the value is a tuple of the answer and something more."""
    return is_tuple_of(value, 2) and is_between(value[0], answer, answer)


def branches_of(turns, lot, items, value):
    """The tuples (answer, lot, what stands there for a tree) of the value, or None if it can't be a tree."""
    if not is_tuple_of(value, 2) or not is_between(value[0], 0, items - 1):
        return None
    branches = turns.branches(lot, value[0])
    if not is_tuple_of(value[1], len(branches)):
        return None
    if not all([is_branch(entry, answer) for entry, (answer, _) in zip(value[1], branches)]):
        return None
    return [(answer, part, entry[1]) for entry, (answer, part) in zip(value[1], branches)]


def worst_or_none(rules, lot, goal, value, prices):
    """What the value counts at worst, or None if it is not a tree; the others are known to be of the right kinds."""
    turns = Turns(rules)
    worst = 0
    level = [(0, lot, value)]
    # Trees may be too high for recursion; level by level there are never more of them than cases of the lot.
    while level:
        following = []
        for spent, one, tree in level:
            worst = max(worst, spent)
            if not is_tuple_of(tree, 0):
                branches = branches_of(turns, one, rules[0][0], tree)
                if branches is None:
                    return None
                following.extend([(spent + prices[answer], part, rest) for answer, part, rest in branches])
            elif not meets(one, goal):
                return None
        level = following
    return worst


def is_tree(rules, lot, goal, value):
    """True if the value is a tree."""
    return height_of(rules, lot, goal, value) is not None


def height_of(rules, lot, goal, value):
    """The height of the value, or None if it is not a tree."""
    require_lot_and_goal(rules, lot, goal)
    return worst_or_none(rules, lot, goal, value, ASKS)
