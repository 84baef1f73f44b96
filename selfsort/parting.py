"""Asks that part the standings of two cases."""

from selfsort.lots import require_case, require_rules
from selfsort.standings import asked_in_turn, require_asks
from selfsort.webs import Turns


def next_pairs(turns, pair, items):
    """The pairs of cases behind each item, as long as it does not part them.

    The last entry is None instead, and stands for its item, if this is the first item that parts them.
    """
    pairs = []
    for item in range(items):
        depth, one = turns.turned(pair[0], item)
        other_depth, other = turns.turned(pair[1], item)
        if depth != other_depth:
            return pairs + [None]
        pairs.append((one, other))
    return pairs


def least_parting(rules, one, other):
    """The least of the fewest asks that part the two cases, or None; all is known to be of the right kinds."""
    turns = Turns(rules)
    asks = {(one, other): ()}
    level = [(one, other)]
    while level:
        following = []
        # A level comes in the order of its asks, so the first that parts is the least one.
        for pair in level:
            for item, turned in enumerate(next_pairs(turns, pair, rules[0][0])):
                if turned is None:
                    return asks[pair] + (item,)
                if turned not in asks:
                    asks[turned] = asks[pair] + (item,)
                    following.append(turned)
        level = following
    return None


def parting_asks(rules, one, other):
    """Of the asks that part the standings of the two cases, the least of those with the fewest, or None."""
    require_rules(rules)
    require_case(rules, one)
    require_case(rules, other)
    return least_parting(rules, one, other)


def depths_of(rules, case, asks):
    """The list of the depths that the asks tell from the case."""
    number, standing = case
    depths, _ = asked_in_turn(rules[number], standing, asks)
    return depths


def parted_by(rules, one, other, asks):
    """True if the asks part the standings of the two cases."""
    require_rules(rules)
    require_case(rules, one)
    require_case(rules, other)
    require_asks(rules[0][0], asks)
    return depths_of(rules, one, asks) != depths_of(rules, other, asks)
