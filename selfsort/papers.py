"""Hard papers, by which no tree of so few asks reaches a goal, and endless ones, by which no tree does.

What dear papers, which count costs, share with hard ones is told by the prices of an ask.
"""

from selfsort.goals import meets, require_lot_and_goal
from selfsort.kinds import is_between, is_from, is_tuple_of
from selfsort.lots import is_lot_of
from selfsort.webs import Turns, Web
from selfsort.worsts import ASKS, hardest_branches, least_worsts
from selfsort.wrongs import NoNumber

MOST_K = 100


def is_number(value):
    """True if the value is a number k, of asks or of what they cost."""
    return is_between(value, 0, MOST_K)


def require_number(k):
    """Raise NoNumber if k is not a number of asks or of what they cost."""
    if not is_number(k):
        raise NoNumber("a number is an integer from 0 to 100")


def entries_down(replies, k, prices):
    """The list of the tuples (left, number of a lot) that come of (k, 0) if each ask is answered by these replies."""
    entries = [(k, 0)]
    known = {(k, 0): True}
    at = 0
    while at < len(entries):
        left, number = entries[at]
        for answer, part in replies[number]:
            entry = (left - prices[answer], part)
            if entry[0] >= 0 and entry not in known:
                known[entry] = True
                entries.append(entry)
        at += 1
    return entries


def paper_above(rules, lot, goal, k, prices):
    """A paper, by these prices, that no tree counts k or less at worst, or None; all is known to be right."""
    web = Web(rules, lot)
    worsts = least_worsts(web, goal, prices)
    if worsts[0] is not None and worsts[0] <= k:
        return None
    entries = entries_down(hardest_branches(web, worsts, prices), k, prices)
    return [(left, web.lots[number]) for left, number in entries]


def hard_paper(rules, lot, goal, k):
    """A hard paper of the lot, the goal and k, or None if there is a tree of height k or less."""
    require_lot_and_goal(rules, lot, goal)
    require_number(k)
    return paper_above(rules, lot, goal, k, ASKS)


def endless_paper(rules, lot, goal):
    """An endless paper of the lot and the goal, or None if there is a tree."""
    require_lot_and_goal(rules, lot, goal)
    web = Web(rules, lot)
    worsts = least_worsts(web, goal, ASKS)
    if worsts[0] is not None:
        return None
    replies = hardest_branches(web, worsts, ASKS)
    numbers = [0]
    seen = {0: True}
    while numbers:
        following = sorted({part for number in numbers for _, part in replies[number]})
        numbers = [number for number in following if number not in seen]
        for number in numbers:
            seen[number] = True
    return [web.lots[number] for number in seen]


def is_entry_of_paper(rules, value):
    """True if the value is a tuple (left, one) with an integer from 0 on and a lot of the rules."""
    return is_tuple_of(value, 2) and is_from(value[0], 0) and is_lot_of(rules, value[1])


def holds_on(turns, entries, left, one, items, prices):
    """True if, for each item, an answer takes more than is left, or the entries hold the lot behind it."""
    for item in range(items):
        branches = turns.branches(one, item)
        if not any([prices[answer] > left or (left - prices[answer], part) in entries for answer, part in branches]):
            return False
    return True


def is_paper_above(rules, lot, goal, k, value, prices):
    """True if the value is a paper, by these prices, that no tree counts k or less; the others are right."""
    if type(value) is not list or not all([is_entry_of_paper(rules, entry) for entry in value]):
        return False
    entries = {entry: True for entry in value}
    if (k, lot) not in entries or any([meets(one, goal) for _, one in entries]):
        return False
    turns = Turns(rules)
    return all([holds_on(turns, entries, left, one, rules[0][0], prices) for left, one in entries])


def is_hard(rules, lot, goal, k, value):
    """True if the value is a hard paper of the lot, the goal and k."""
    require_lot_and_goal(rules, lot, goal)
    require_number(k)
    return is_paper_above(rules, lot, goal, k, value, ASKS)


def goes_on(turns, entries, one, items):
    """True if, for each item, there is an answer behind which the lot is among the entries."""
    for item in range(items):
        if not any([part in entries for _, part in turns.branches(one, item)]):
            return False
    return True


def lots_before(rules, lot, goal, value):
    """A dict of the lots in the value, or None if it is not a list of lots, this one among them, before the goal."""
    if type(value) is not list or not all([is_lot_of(rules, entry) for entry in value]):
        return None
    entries = {entry: True for entry in value}
    if lot not in entries or any([meets(one, goal) for one in entries]):
        return None
    return entries


def is_endless(rules, lot, goal, value):
    """True if the value is an endless paper of the lot and the goal."""
    require_lot_and_goal(rules, lot, goal)
    entries = lots_before(rules, lot, goal, value)
    if entries is None:
        return False
    turns = Turns(rules)
    return all([goes_on(turns, entries, one, rules[0][0]) for one in entries])
