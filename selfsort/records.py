"""Records of what is claimed of lists, and their judge."""

from selfsort.blind import leads_blind
from selfsort.goals import is_goal_of
from selfsort.kinds import are_all_below
from selfsort.lots import are_rules, is_lot_of
from selfsort.orders import holds_all_items
from selfsort.papers import is_endless, is_hard, is_number
from selfsort.rules import is_rule
from selfsort.standings import asked_in_turn, stands_by
from selfsort.trees import is_tree
from selfsort.ways import is_no_way
from selfsort.wrongs import NoRecord

# How many entries a record has, its first one included.
LENGTHS = {"way": 5, "no way": 5, "tree": 5, "hard": 6, "endless": 5, "blind": 5}
OF_ONE_RULE = ("way", "no way")


def is_record(value):
    """True if the value is a tuple of one of the forms, by its first entry and its length."""
    if type(value) is not tuple or len(value) == 0:
        return False
    word = value[0]
    # A dict takes no list for a key, so the word's kind is settled before it is asked.
    return type(word) is str and LENGTHS.get(word) == len(value)


def wrong_of_order(rule, standing, order):
    """The number of the first that is wrong of a rule, a standing and an order, or None."""
    if not is_rule(rule):
        return 0
    if not stands_by(rule, standing):
        return 1
    return None if holds_all_items(rule[0], order) else 2


def wrong_of_goal(rules, lot, goal):
    """The number of the first that is wrong of rules, a lot and a goal, or None."""
    if not are_rules(rules):
        return 0
    if not is_lot_of(rules, lot):
        return 1
    return None if is_goal_of(rules[0][0], goal) else 2


def wrong_beginning(record):
    """The number of the first of the conditions 0 to 2 that does not hold, or None."""
    if record[0] in OF_ONE_RULE:
        return wrong_of_order(record[1], record[2], record[3])
    return wrong_of_goal(record[1], record[2], record[3])


# The following functions are asked only if the conditions 0 to 2 hold.


def wrong_way(record):
    """The number of the first condition that does not hold of a record that asks are a way, or None."""
    _, rule, standing, order, asks = record
    if not are_all_below(asks, rule[0]):
        return 3
    _, turned = asked_in_turn(rule, standing, asks)
    return None if turned[0] == order else 4


def wrong_no_way(record):
    """The number of the first condition that does not hold of a record that there is no way, or None."""
    _, rule, standing, order, standings = record
    return None if is_no_way(rule, standing, order, standings) else 3


def wrong_tree(record):
    """The number of the first condition that does not hold of a record of a tree, or None."""
    _, rules, lot, goal, tree = record
    return None if is_tree(rules, lot, goal, tree) else 3


def wrong_hard(record):
    """The number of the first condition that does not hold of a record of a hard paper, or None."""
    _, rules, lot, goal, k, paper = record
    if not is_number(k):
        return 3
    return None if is_hard(rules, lot, goal, k, paper) else 4


def wrong_endless(record):
    """The number of the first condition that does not hold of a record of an endless paper, or None."""
    _, rules, lot, goal, paper = record
    return None if is_endless(rules, lot, goal, paper) else 3


def wrong_blind(record):
    """The number of the first condition that does not hold of a record of a blind row, or None."""
    _, rules, lot, goal, asks = record
    if not are_all_below(asks, rules[0][0]):
        return 3
    return None if leads_blind(rules, lot, goal, asks) else 4


WRONGS = {
    "way": wrong_way, "no way": wrong_no_way, "tree": wrong_tree, "hard": wrong_hard, "endless": wrong_endless,
    "blind": wrong_blind,
}


def judge(record):
    """Judge a record: right, or wrong at the first condition that does not hold."""
    if not is_record(record):
        raise NoRecord("a record is a tuple of one of six forms, by its first entry and its length")
    number = wrong_beginning(record)
    if number is None:
        wrong = WRONGS[record[0]]
        number = wrong(record)
    return ("right",) if number is None else ("wrong", number)
