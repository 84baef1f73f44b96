"""Trees of asks that reach a goal whatever case of the lot it is."""

from selfsort.goals import meets, require_lot_and_goal
from selfsort.heights import height_by, least_heights
from selfsort.kinds import is_between, is_tuple_of
from selfsort.webs import Turns, Web


def least_asks(rules, lot, goal):
    """The least height of a tree, or None if there is no tree."""
    require_lot_and_goal(rules, lot, goal)
    return least_heights(Web(rules, lot), goal)[0]


def first_item(heights, steps, height):
    """The least item with which a tree of this height can begin."""
    return [height_by(heights, branches) for branches in steps].index(height)


def trees_of(web, heights):
    """A dict from the number of each lot that has a tree to one of the least height."""
    trees = {}
    numbers = [number for number, height in enumerate(heights) if height is not None]
    for number in sorted(numbers, key=lambda one: heights[one]):
        if heights[number] == 0:
            trees[number] = ()
        else:
            item = first_item(heights, web.steps[number], heights[number])
            branches = web.steps[number][item]
            trees[number] = (item, tuple([(answer, trees[part]) for answer, part in branches]))
    return trees


def best_tree(rules, lot, goal):
    """A tree of the least height, or None if there is no tree."""
    require_lot_and_goal(rules, lot, goal)
    web = Web(rules, lot)
    return trees_of(web, least_heights(web, goal)).get(0)


def is_branch(value, answer):
    """True if the value is a tuple of the answer and something more."""
    return is_tuple_of(value, 2) and is_between(value[0], answer, answer)


def trees_behind(turns, lot, items, value):
    """The tuples (lot, what stands there for a tree) behind the answers, or None if the value can't be a tree."""
    if not is_tuple_of(value, 2) or not is_between(value[0], 0, items - 1):
        return None
    branches = turns.branches(lot, value[0])
    if not is_tuple_of(value[1], len(branches)):
        return None
    if not all([is_branch(entry, answer) for entry, (answer, _) in zip(value[1], branches)]):
        return None
    return [(part, entry[1]) for entry, (_, part) in zip(value[1], branches)]


def height_or_none(rules, lot, goal, value):
    """The height of the value, or None if it is not a tree; the others are known to be of the right kinds."""
    turns = Turns(rules)
    height = 0
    level = [(lot, value)]
    # Trees may be too high for recursion; level by level there are never more of them than cases of the lot.
    while level:
        following = []
        for one, tree in level:
            if not is_tuple_of(tree, 0):
                behind = trees_behind(turns, one, rules[0][0], tree)
                if behind is None:
                    return None
                following.extend(behind)
            elif not meets(one, goal):
                return None
        if following:
            height += 1
        level = following
    return height


def is_tree(rules, lot, goal, value):
    """True if the value is a tree."""
    require_lot_and_goal(rules, lot, goal)
    return height_or_none(rules, lot, goal, value) is not None


def height_of(rules, lot, goal, value):
    """The height of the value, or None if it is not a tree."""
    require_lot_and_goal(rules, lot, goal)
    return height_or_none(rules, lot, goal, value)
