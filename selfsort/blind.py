"""Rows of asks whose depths are not seen, and papers that none of them reaches a goal."""

from selfsort.goals import meets, require_lot_and_goal
from selfsort.lots import require_lot
from selfsort.orders import require_item
from selfsort.papers import lots_before
from selfsort.webs import Turns, blind_rows


def behind_blind(rules, lot, item):
    """The lot behind the item asked blind."""
    require_lot(rules, lot)
    require_item(rules[0][0], item)
    return Turns(rules).blind(lot, item)


def blind_row(rules, lot, goal):
    """Of the blind rows to the goal with the fewest asks the least one, or None."""
    require_lot_and_goal(rules, lot, goal)
    for one, asks in blind_rows(rules, lot).items():
        if meets(one, goal):
            return asks
    return None


def blind_paper(rules, lot, goal):
    """The blind paper of just the lots that come of the lot blind, ascending, or None if there is a blind row."""
    require_lot_and_goal(rules, lot, goal)
    paper = sorted(blind_rows(rules, lot))
    if any([meets(one, goal) for one in paper]):
        return None
    return paper


def is_blind_paper(rules, lot, goal, value):
    """True if the value is a blind paper of the lot and the goal."""
    require_lot_and_goal(rules, lot, goal)
    entries = lots_before(rules, lot, goal, value)
    if entries is None:
        return False
    turns = Turns(rules)
    return all([turns.blind(one, item) in entries for one in entries for item in range(rules[0][0])])


def leads_blind(rules, lot, goal, asks):
    """True if the asks are a blind row of the lot to the goal; all is known to be of the right kinds."""
    turns = Turns(rules)
    now = lot
    for item in asks:
        now = turns.blind(now, item)
    return meets(now, goal)
