"""Ways to an order by asks, and papers that there is none."""

from selfsort.orders import require_order_of
from selfsort.standings import asked_once, require_standing, stands_by
from selfsort.webs import blind_rows


def ways_from(rule, standing):
    """A dict from each standing that is reached to the least of the fewest asks behind which it stands.

    Its keys come in the order of these asks: fewer ones first, and of as many the least one first.
    """
    # A case alone stays alone, and as a rule has at most 384 standings, there are never too many lots.
    rows = blind_rows((rule,), ((0, standing),))
    return {lot[0][1]: asks for lot, asks in rows.items()}


def reached(rule, standing):
    """The ascending list of the standings that are reached from the standing."""
    require_standing(rule, standing)
    return sorted(ways_from(rule, standing))


def least_way(rule, standing, order):
    """Of the ways to the order with the fewest asks the least one, or None."""
    require_standing(rule, standing)
    require_order_of(rule[0], order)
    for turned, asks in ways_from(rule, standing).items():
        if turned[0] == order:
            return asks
    return None


def no_way(rule, standing, order):
    """The paper of just the standings that are reached, ascending, or None if there is a way."""
    require_standing(rule, standing)
    require_order_of(rule[0], order)
    paper = sorted(ways_from(rule, standing))
    if any([turned[0] == order for turned in paper]):
        return None
    return paper


def is_no_way(rule, standing, order, value):
    """True if the value is a paper that there is no way to the order."""
    require_standing(rule, standing)
    require_order_of(rule[0], order)
    if type(value) is not list or not all([stands_by(rule, entry) for entry in value]):
        return False
    entries = {entry: True for entry in value}
    if standing not in entries or any([entry[0] == order for entry in entries]):
        return False
    return all([asked_once(rule, entry, item)[1] in entries for entry in entries for item in range(rule[0])])
