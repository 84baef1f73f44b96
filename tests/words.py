"""What the document says, written down as plainly as can be, to compare the program with."""

from functools import lru_cache
from itertools import permutations, product

from tests.samples import strictly


def is_integer(value, least, greatest):
    """An integer from least to greatest; True and False are none."""
    return isinstance(value, int) and not isinstance(value, bool) and least <= value <= greatest


def is_tuple(value, *lengths):
    """A tuple of one of these lengths."""
    return isinstance(value, tuple) and len(value) in lengths


def order_behind(order, item, place):
    """The order behind moving, by the words of point 4 about the place of each single item."""
    own = [at for at, other in enumerate(order) if other == item][0]
    row = [None] * len(order)
    for at, other in enumerate(order):
        if at == own:
            row[place] = other
        elif place <= at < own:
            row[at + 1] = other
        else:
            row[at] = other
    return tuple(row)


def every_order(items):
    """All orders of so many items, ascending."""
    return sorted(permutations(range(items)))


def is_order(items, value):
    """Point 4: one of the orders, to the letter."""
    return strictly(value) in {strictly(order) for order in every_order(items)}


def rows_of_place(place, flags):
    """Every right row of a rule's table for the place."""
    entries = [(to, flag) for to in range(place + 1) for flag in range(flags)]
    return list(product(entries, repeat=flags))


def every_rule(items, flags):
    """Every rule of so many items and flags."""
    tables = product(*[rows_of_place(place, flags) for place in range(items)])
    return [(items, flags, table) for table in tables]


def every_standing(rule):
    """All standings of the rule, ascending."""
    return sorted(product(every_order(rule[0]), product(range(rule[1]), repeat=rule[0])))


def every_case(rules):
    """All cases of the rules, ascending."""
    return [(number, standing) for number, rule in enumerate(rules) for standing in every_standing(rule)]


@lru_cache(maxsize=None)
def texts_of_cases(rules):
    """The texts of all cases of the rules."""
    return {strictly(case) for case in every_case(rules)}


def is_rule(value):
    """Point 5: a tuple (items, flags, table)."""
    if not is_tuple(value, 3) or not is_integer(value[0], 2, 4) or not is_integer(value[1], 1, 2):
        return False
    if not is_tuple(value[2], value[0]) or not all(is_tuple(row, value[1]) for row in value[2]):
        return False
    entries = [(place, entry) for place, row in enumerate(value[2]) for entry in row]
    if not all(is_tuple(entry, 2) for _, entry in entries):
        return False
    return all(is_integer(to, 0, place) and is_integer(flag, 0, value[1] - 1) for place, (to, flag) in entries)


def is_standing(rule, value):
    """Point 6: one of the standings of the rule, to the letter."""
    return is_case((rule,), (0, value))


def are_asks(items, value):
    """Point 6: a tuple of items."""
    return isinstance(value, tuple) and all(is_integer(entry, 0, items - 1) for entry in value)


def are_rules(value):
    """Point 9: a tuple of 1 to 3 rules with the same number of items."""
    return is_tuple(value, 1, 2, 3) and all(is_rule(rule) for rule in value) and len({rule[0] for rule in value}) == 1


def is_case(rules, value):
    """Point 9: one of the cases of the rules, to the letter."""
    return strictly(value) in texts_of_cases(rules)


def is_lot(rules, value):
    """Point 9: an ascending tuple of 1 to 48 different cases."""
    if not is_tuple(value, *range(1, 49)) or not all(is_case(rules, case) for case in value):
        return False
    return list(value) == sorted(set(value))


def is_goal(items, value):
    """Point 11: one of the five goals, to the letter."""
    goals = [("order",), ("rule",), ("case",)] + [("front", item) for item in range(items)]
    goals += [("sorted", order) for order in every_order(items)]
    return strictly(value) in {strictly(goal) for goal in goals}


def is_log(items, value):
    """Point 10: a tuple of tuples (item, answer)."""
    return isinstance(value, tuple) and all(is_tuple(entry, 2) and are_asks(items, entry) for entry in value)


def ask(rule, standing, item):
    """Point 6: the depth and the standing behind the ask."""
    order, flags = standing
    depth = [place for place, other in enumerate(order) if other == item][0]
    to, flag = rule[2][depth][flags[item]]
    new_flags = tuple([flag if number == item else old for number, old in enumerate(flags)])
    return depth, (order_behind(order, item, to), new_flags)


def run(rule, standing, asks):
    """Point 6: the depths and the standing behind the asks."""
    depths = []
    for item in asks:
        depth, standing = ask(rule, standing, item)
        depths.append(depth)
    return depths, standing


def reached(rule, standing):
    """Point 7: the standings behind some asks, or none."""
    found = {standing}
    while True:
        more = found | {ask(rule, one, item)[1] for one in found for item in range(rule[0])}
        if more == found:
            return sorted(found)
        found = more


def ask_case(rules, case, item):
    """Point 10: the depth and the case behind the ask."""
    depth, standing = ask(rules[case[0]], case[1], item)
    return depth, (case[0], standing)


def lots_behind(rules, lot, item):
    """Point 10: a dict from each answer to the lot behind the item and the answer."""
    told = [ask_case(rules, case, item) for case in lot]
    return {depth: tuple(sorted({case for other, case in told if other == depth})) for depth, _ in sorted(told)}


def coming(rules, lot, most=600):
    """Point 10: the ascending list of the lots that come of the lot, or None if there are more than so many."""
    found = {lot}
    new = [lot]
    while new and len(found) <= most:
        parts = {part for one in new for item in range(rules[0][0]) for part in lots_behind(rules, one, item).values()}
        new = sorted(parts - found)
        found |= parts
    return sorted(found) if len(found) <= most else None


def reaches(lot, goal):
    """Point 11: the goals, one after the other."""
    return {
        "order": lambda: len({order for _, (order, _) in lot}) == 1,
        "sorted": lambda: {order for _, (order, _) in lot} == {goal[1]},
        "rule": lambda: len({number for number, _ in lot}) == 1,
        "case": lambda: len(lot) == 1,
        "front": lambda: {order[0] for _, (order, _) in lot} == {goal[1]},
    }[goal[0]]()


def lots_without_tree(rules, lot, goal):
    """Point 12: those of the lots that come of the lot that no tree of asks helps."""
    left = {one for one in coming(rules, lot) if not reaches(one, goal)}
    while True:
        helped = set()
        for one in left:
            for item in range(rules[0][0]):
                if not left.intersection(lots_behind(rules, one, item).values()):
                    helped.add(one)
        if not helped:
            return left
        left -= helped


def reached_within(rules, lot, goal, k, known):
    """Point 12: whether there is a tree of a height of k or less; known is a dict of what is known already."""
    if reaches(lot, goal):
        return True
    if k == 0:
        return False
    if (lot, k) not in known:
        known[lot, k] = any(
            all(reached_within(rules, part, goal, k - 1, known) for part in lots_behind(rules, lot, item).values())
            for item in range(rules[0][0])
        )
    return known[lot, k]


def height_of(rules, lot, goal, value):
    """Point 12: the height of a tree, or None if the value is none."""
    if is_tuple(value, 0):
        return 0 if reaches(lot, goal) else None
    if not is_tuple(value, 2) or not is_integer(value[0], 0, rules[0][0] - 1) or not isinstance(value[1], tuple):
        return None
    if not all(is_tuple(branch, 2) and is_integer(branch[0], 0, 3) for branch in value[1]):
        return None
    lots = lots_behind(rules, lot, value[0])
    if [answer for answer, _ in value[1]] != sorted(lots):
        return None
    heights = [height_of(rules, lots[answer], goal, tree) for answer, tree in value[1]]
    return None if None in heights else 1 + max(heights)


def is_hard(rules, lot, goal, k, value):
    """Point 13: a hard paper."""
    if not isinstance(value, list) or not all(is_tuple(entry, 2) and is_lot(rules, entry[1]) for entry in value):
        return False
    if not all(is_integer(left, 0, 10 ** 20000) for left, _ in value) or (k, lot) not in value:
        return False
    for left, one in value:
        if reaches(one, goal):
            return False
        for item in range(rules[0][0]) if left > 0 else []:
            if not any((left - 1, part) in value for part in lots_behind(rules, one, item).values()):
                return False
    return True


def is_endless(rules, lot, goal, value):
    """Point 13: an endless paper."""
    if not isinstance(value, list) or not all(is_lot(rules, one) for one in value) or lot not in value:
        return False
    for one in value:
        if reaches(one, goal):
            return False
        for item in range(rules[0][0]):
            if not any(part in value for part in lots_behind(rules, one, item).values()):
                return False
    return True


@lru_cache(maxsize=None)
def lot_behind_blind(rules, lot, item):
    """Point 14: the lot behind the item asked blind."""
    return tuple(sorted({ask_case(rules, case, item)[1] for case in lot}))


def coming_blind(rules, lot, most=600):
    """Point 14: the ascending list of the lots that come of the lot blind, or None if there are more than so many."""
    found = {lot}
    new = found
    while new and len(found) <= most:
        new = {lot_behind_blind(rules, one, item) for one in new for item in range(rules[0][0])} - found
        found |= new
    return sorted(found) if len(found) <= most else None


def least_blind_row(rules, lot, goal):
    """Point 14: of the blind rows with the fewest asks the least one, or None."""
    if not any(reaches(one, goal) for one in coming_blind(rules, lot)):
        return None
    # The lots behind all rows of so many asks, each with the least such row that leads to it.
    rows = {lot: ()}
    while not any(reaches(one, goal) for one in rows):
        longer = [(one, asks + (item,), item) for one, asks in rows.items() for item in range(rules[0][0])]
        rows = {}
        for one, asks, item in longer:
            part = lot_behind_blind(rules, one, item)
            rows[part] = min(asks, rows.get(part, asks))
    return min(asks for one, asks in rows.items() if reaches(one, goal))


def is_blind_row(rules, lot, goal, asks):
    """Point 14: asks behind which, asked blind, the lot reaches the goal."""
    for item in asks:
        lot = lot_behind_blind(rules, lot, item)
    return reaches(lot, goal)


def is_blind_paper(rules, lot, goal, value):
    """Point 14: a blind paper."""
    if not isinstance(value, list) or not all(is_lot(rules, one) for one in value) or lot not in value:
        return False
    if any(reaches(one, goal) for one in value):
        return False
    return all(lot_behind_blind(rules, one, item) in value for one in value for item in range(rules[0][0]))


def reached_for(rules, lot, goal, k, known):
    """Point 15: whether there is a tree that costs k or less at worst; known is a dict of what is known already."""
    if reaches(lot, goal):
        return True
    if (lot, k) not in known:
        known[lot, k] = any(
            all(
                depth + 1 <= k and reached_for(rules, part, goal, k - depth - 1, known)
                for depth, part in lots_behind(rules, lot, item).items()
            )
            for item in range(rules[0][0])
        )
    return known[lot, k]


def cost_of(rules, lot, goal, value):
    """Point 15: the cost at worst of a tree, or None if the value is none."""
    if height_of(rules, lot, goal, value) is None:
        return None
    if value == ():
        return 0
    lots = lots_behind(rules, lot, value[0])
    return max(1 + answer + cost_of(rules, lots[answer], goal, tree) for answer, tree in value[1])


def is_dear(rules, lot, goal, k, value):
    """Point 15: a dear paper."""
    if not isinstance(value, list) or not all(is_tuple(entry, 2) and is_lot(rules, entry[1]) for entry in value):
        return False
    if not all(is_integer(left, 0, 10 ** 20000) for left, _ in value) or (k, lot) not in value:
        return False
    for left, one in value:
        if reaches(one, goal):
            return False
        for item in range(rules[0][0]):
            lots = lots_behind(rules, one, item)
            if not any(depth + 1 > left or (left - depth - 1, part) in value for depth, part in lots.items()):
                return False
    return True


def is_ahead(order, item, other):
    """Point 16: the one item stands ahead of the other one."""
    for one in order:
        if one in (item, other):
            return one == item and one != other


def sure_pairs(rules, lot):
    """Point 16: the pairs of items of which the order is sure."""
    pairs = permutations(range(rules[0][0]), 2)
    return sorted(pair for pair in pairs if all(is_ahead(order, *pair) for _, (order, _) in lot))


def sure_places(rules, lot):
    """Point 16: the sure place of each item, or None."""
    found = []
    for item in range(rules[0][0]):
        places = [place for place in range(rules[0][0]) if all(order[place] == item for _, (order, _) in lot)]
        found.append(places[0] if places else None)
    return found


def same_for_ever(rules, one, other):
    """Point 8: True if no asks part the cases: in all pairs of cases that come of them the depths are the same."""
    seen, new = {(one, other)}, [(one, other)]
    while new:
        pair = new.pop()
        for item in range(rules[0][0]):
            (depth, left), (other_depth, right) = [ask_case(rules, case, item) for case in pair]
            if depth != other_depth:
                return False
            if (left, right) not in seen:
                seen.add((left, right))
                new.append((left, right))
    return True


def twins(rule):
    """Point 19: the standings in lists, each with all its twins."""
    found = []
    for standing in every_standing(rule):
        for row in found:
            if same_for_ever((rule,), (0, row[0]), (0, standing)):
                row.append(standing)
                break
        else:
            found.append([standing])
    return found


def least_height(rules, lot, goal):
    """Point 12: the least height of a tree, or None."""
    if lot in lots_without_tree(rules, lot, goal):
        return None
    known, k = {}, 0
    while not reached_within(rules, lot, goal, k, known):
        k += 1
    return k


def next_item(rules, lot, goal):
    """Point 17 and the interface: the least item with which a tree of the least height can begin, or None."""
    height = least_height(rules, lot, goal)
    for item in range(rules[0][0]) if height else []:
        if all(reached_within(rules, part, goal, height - 1, {}) for part in lots_behind(rules, lot, item).values()):
            return item
    return None


def is_no_way(rule, standing, order, value):
    """Point 7: a paper that there is no way to the order."""
    if not isinstance(value, list) or not all(is_standing(rule, one) for one in value) or standing not in value:
        return False
    if any(one[0] == order for one in value):
        return False
    return all(ask(rule, one, item)[1] in value for one in value for item in range(rule[0]))


def conditions(record):
    """Point 18: the conditions of the record, as functions; a record of no form has none."""
    form, first, second, third, *rest = record
    last = rest[-1]
    of_rule = [
        lambda: is_rule(first), lambda: is_standing(first, second), lambda: is_order(first[0], third),
    ]
    of_rules = [
        lambda: are_rules(first), lambda: is_lot(first, second), lambda: is_goal(first[0][0], third),
    ]
    return {
        "way": of_rule + [
            lambda: are_asks(first[0], last), lambda: run(first, second, last)[1][0] == third,
        ],
        "no way": of_rule + [lambda: is_no_way(first, second, third, last)],
        "tree": of_rules + [lambda: height_of(first, second, third, last) is not None],
        "hard": of_rules + [
            lambda: is_integer(rest[0], 0, 100), lambda: is_hard(first, second, third, rest[0], last),
        ],
        "endless": of_rules + [lambda: is_endless(first, second, third, last)],
        "blind": of_rules + [
            lambda: are_asks(first[0][0], last), lambda: is_blind_row(first, second, third, last),
        ],
    }[form]


def judged(record):
    """Point 18: right, or the number of the first condition that does not hold."""
    for number, holds in enumerate(conditions(record)):
        if not holds():
            return ("wrong", number)
    return ("right",)


def is_record(value):
    """Point 18: a tuple of one of the six forms, by its first entry and its length."""
    forms = [("way", 5), ("no way", 5), ("tree", 5), ("hard", 6), ("endless", 5), ("blind", 5)]
    return isinstance(value, tuple) and any(len(value) == many and value[0] == word for word, many in forms)
