"""Hard papers, by which no tree of so few asks reaches a goal, and endless ones, by which no tree does."""

from selfsort.goals import meets, require_lot_and_goal
from selfsort.heights import least_heights
from selfsort.kinds import is_between, is_from, is_tuple_of
from selfsort.lots import is_lot_of
from selfsort.webs import Turns, Web
from selfsort.wrongs import NoNumber

MOST_ASKS = 100


def require_number(k):
    """Raise NoNumber if k is not a number of asks."""
    if not is_between(k, 0, MOST_ASKS):
        raise NoNumber("a number of asks is an integer from 0 to 100")


def hardest(web, heights, branches):
    """The number of a lot of the branches of which the least height is greatest, or there is no tree."""
    numbers = [number for _, number in branches]
    # Of equally hard ones the smallest lot, so that the paper is soon judged.
    return max(numbers, key=lambda one: (heights[one] is None, heights[one] or 0, -len(web.lots[one])))


def hard_replies(web, heights):
    """For each lot by its number, and for each item, the number of the hardest lot behind it."""
    return [[hardest(web, heights, branches) for branches in steps] for steps in web.steps]


def hard_paper(rules, lot, goal, k):
    """A hard paper of the lot, the goal and k, or None if there is a tree of height k or less."""
    require_lot_and_goal(rules, lot, goal)
    require_number(k)
    web = Web(rules, lot)
    heights = least_heights(web, goal)
    if heights[0] is not None and heights[0] <= k:
        return None
    replies = hard_replies(web, heights)
    paper = [(k, lot)]
    numbers = [0]
    for left in reversed(range(k)):
        numbers = sorted({reply for number in numbers for reply in replies[number]})
        paper.extend([(left, web.lots[number]) for number in numbers])
    return paper


def endless_paper(rules, lot, goal):
    """An endless paper of the lot and the goal, or None if there is a tree."""
    require_lot_and_goal(rules, lot, goal)
    web = Web(rules, lot)
    heights = least_heights(web, goal)
    if heights[0] is not None:
        return None
    replies = hard_replies(web, heights)
    numbers = [0]
    seen = {0: True}
    while numbers:
        following = sorted({reply for number in numbers for reply in replies[number]})
        numbers = [number for number in following if number not in seen]
        for number in numbers:
            seen[number] = True
    return [web.lots[number] for number in seen]


def is_hard_entry(rules, value):
    """True if the value is a tuple (left, one) with an integer from 0 on and a lot of the rules."""
    return is_tuple_of(value, 2) and is_from(value[0], 0) and is_lot_of(rules, value[1])


def holds_on(turns, entries, left, one, items):
    """True if, for each item, there is an answer behind which the entries hold a lot with one ask less left."""
    for item in range(items):
        if not any([(left - 1, part) in entries for _, part in turns.branches(one, item)]):
            return False
    return True


def is_hard(rules, lot, goal, k, value):
    """True if the value is a hard paper of the lot, the goal and k."""
    require_lot_and_goal(rules, lot, goal)
    require_number(k)
    if type(value) is not list or not all([is_hard_entry(rules, entry) for entry in value]):
        return False
    entries = {entry: True for entry in value}
    if (k, lot) not in entries or any([meets(one, goal) for _, one in entries]):
        return False
    turns = Turns(rules)
    return all([left == 0 or holds_on(turns, entries, left, one, rules[0][0]) for left, one in entries])


def goes_on(turns, entries, one, items):
    """True if, for each item, there is an answer behind which the lot is among the entries."""
    for item in range(items):
        if not any([part in entries for _, part in turns.branches(one, item)]):
            return False
    return True


def is_endless(rules, lot, goal, value):
    """True if the value is an endless paper of the lot and the goal."""
    require_lot_and_goal(rules, lot, goal)
    if type(value) is not list or not all([is_lot_of(rules, entry) for entry in value]):
        return False
    entries = {entry: True for entry in value}
    if lot not in entries or any([meets(one, goal) for one in entries]):
        return False
    turns = Turns(rules)
    return all([goes_on(turns, entries, one, rules[0][0]) for one in entries])
