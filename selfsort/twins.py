"""Twins: standings of a rule that no asks part."""

from selfsort.parting import least_parting
from selfsort.standings import all_standings, asked_once, require_standing


def numbered(signs):
    """A dict with a number for each key of the dict signs, the same one just for keys with equal signs."""
    numbers = {}
    for sign in signs.values():
        if sign not in numbers:
            numbers[sign] = len(numbers)
    return {key: numbers[sign] for key, sign in signs.items()}


def kinds_of(rule, standings):
    """A dict with a number for each of all standings of the rule, the same one just for twins."""
    turned = {one: [asked_once(rule, one, item)[1] for item in range(rule[0])] for one in standings}
    kinds = {}
    # One ask for each item tells the order, and no more.
    finer = numbered({one: one[0] for one in standings})
    # In each round one ask more parts the kinds; a round that parts none leaves their numbers as they are.
    while finer != kinds:
        kinds = finer
        finer = numbered({one: (kinds[one], tuple([kinds[other] for other in turned[one]])) for one in standings})
    return kinds


def twins(rule):
    """The ascending list of the ascending lists of standings that are each other's twins."""
    standings = all_standings(rule)
    kinds = kinds_of(rule, standings)
    groups = {}
    for one in standings:
        groups.setdefault(kinds[one], []).append(one)
    return sorted(groups.values())


def are_twins(rule, standing, other):
    """True if the standing and the other one are twins."""
    require_standing(rule, standing)
    require_standing(rule, other)
    return least_parting((rule,), (0, standing), (0, other)) is None
