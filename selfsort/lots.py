"""Rules, their cases, lots of cases, and what answers to asks make of a lot."""

from selfsort.kinds import is_between, is_tuple_of
from selfsort.orders import all_orders, require_item
from selfsort.rules import is_rule
from selfsort.standings import stands_by
from selfsort.webs import Turns, Web
from selfsort.wrongs import NoAnswer, NoCase, NoLog, NoLot, NoRules, TooMany

MOST_RULES = 3
MOST_CASES = 48


def are_rules(value):
    """True if the value is rules."""
    if type(value) is not tuple or not 1 <= len(value) <= MOST_RULES:
        return False
    return all([is_rule(entry) for entry in value]) and all([entry[0] == value[0][0] for entry in value])


def require_rules(rules):
    """Raise NoRules if rules are not rules."""
    if not are_rules(rules):
        raise NoRules("rules are a tuple of 1 to 3 rules with the same number of items")


def is_case(rules, value):
    """True if the value is a case of the rules, which are known to be rules."""
    if not is_tuple_of(value, 2) or not is_between(value[0], 0, len(rules) - 1):
        return False
    return stands_by(rules[value[0]], value[1])


def require_case(rules, case):
    """Raise NoCase if the case is not one of the rules, which are known to be rules."""
    if not is_case(rules, case):
        raise NoCase("a case is a tuple (number, standing) of the rules")


def is_lot_of(rules, value):
    """True if the value is a lot of the rules, which are known to be rules."""
    if type(value) is not tuple or not 1 <= len(value) <= MOST_CASES:
        return False
    for case in value:
        if not is_case(rules, case):
            return False
    return all([value[index] < value[index + 1] for index in range(len(value) - 1)])


def is_lot(rules, value):
    """True if the value is a lot of the rules."""
    require_rules(rules)
    return is_lot_of(rules, value)


def require_lot(rules, lot):
    """Raise NoRules or NoLot if the lot is not one of the rules."""
    if not is_lot(rules, lot):
        raise NoLot("a lot is an ascending tuple of 1 to 48 different cases of the rules")


def first_lot(rules):
    """The lot of all cases with any rule, any order and all flags 0."""
    require_rules(rules)
    items = rules[0][0]
    flags = (0,) * items
    cases = [(number, (order, flags)) for number in range(len(rules)) for order in all_orders(items)]
    if len(cases) > MOST_CASES:
        raise TooMany(MOST_CASES)
    return tuple(cases)


def answers(rules, lot, item):
    """The ascending list of the answers to the item."""
    require_lot(rules, lot)
    require_item(rules[0][0], item)
    return [answer for answer, _ in Turns(rules).branches(lot, item)]


def lot_behind(turns, lot, item, answer):
    """The lot behind the item and the answer, any value; raises NoAnswer if it is not one of the answers."""
    branches = dict(turns.branches(lot, item))
    # A dict takes True for 1 and no list at all, so the kind is settled before it is asked.
    if type(answer) is not int or answer not in branches:
        raise NoAnswer(answer)
    return branches[answer]


def behind(rules, lot, item, value):
    """The lot behind the item and the answer value."""
    require_lot(rules, lot)
    require_item(rules[0][0], item)
    return lot_behind(Turns(rules), lot, item, value)


def is_log(items, value):
    """True if the value is a log of so many items."""
    if type(value) is not tuple or not all([is_tuple_of(entry, 2) for entry in value]):
        return False
    return all([is_between(number, 0, items - 1) for entry in value for number in entry])


def fits(turns, case, log):
    """True if the log is just what is told from the case."""
    now = case
    for item, answer in log:
        depth, now = turns.turned(now, item)
        if depth != answer:
            return False
    return True


def fitting(rules, lot, log):
    """The ascending list of the cases of the lot, as they stand in it, that the log fits."""
    require_lot(rules, lot)
    if not is_log(rules[0][0], log):
        raise NoLog("a log is a tuple of tuples (item, answer)")
    turns = Turns(rules)
    return [case for case in lot if fits(turns, case, log)]


def coming(rules, lot):
    """The ascending list of the lots that come of the lot."""
    require_lot(rules, lot)
    return sorted(Web(rules, lot).lots)
