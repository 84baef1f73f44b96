"""Points 2 and 3 over the whole: what holds of every function and method of the interface."""

from selfsort import orders, twins
from selfsort.blind import blind_paper
from selfsort.costs import dear_paper
from selfsort.crowd import Crowd
from selfsort.lots import first_lot
from selfsort.papers import endless_paper, hard_paper
from selfsort.seeker import Seeker
from selfsort.standings import Store
from selfsort.trees import best_tree
from selfsort.ways import no_way
from selfsort.wrongs import NoItem, NoItems, NoOrder, SortError
from tests.checks import ARGUMENTS, RULES, SECOND, STANDING, STILL, Checks
from tests.samples import nested, odd_values, strictly
from tests.test_interface import FUNCTIONS

# By these rules, this lot and this goal there is no tree, so that there is a paper of each kind.
STAYS = ((STILL,), first_lot((STILL,)), ("sorted", (1, 0)))
SEARCH = ((SECOND,), first_lot((SECOND,)), ("sorted", (1, 0)))
# The arguments of the functions for which the right ones of checks.ARGUMENTS do not tell much.
SPECIAL = {
    "is_order": [(3, (0, 2, 1)), (4, [0])],
    "all_orders": [(3,)],
    "place_of": [((2, 0, 1), 0)],
    "moved": [((2, 0, 1), 1, 1)],
    "is_rule": [(SECOND,), ([SECOND],)],
    "named_rule": [(3, "half")],
    "is_standing": [(SECOND, STANDING), (SECOND, [STANDING])],
    "no_way": [(STILL, ((0, 1), (0, 0)), (1, 0))],
    "is_no_way": [(STILL, ((0, 1), (0, 0)), (1, 0), no_way(STILL, ((0, 1), (0, 0)), (1, 0)))],
    "are_rules": [(RULES,), (list(RULES),)],
    "is_lot": [(RULES, ARGUMENTS["lot"][0]), (RULES, [[0, [STANDING]]])],
    "behind": [(RULES, ARGUMENTS["lot"][0], 1, 1)],
    "is_goal": [(RULES, ("front", 1)), (RULES, ["front", 1])],
    "best_tree": [SEARCH],
    "is_tree": [SEARCH + (best_tree(*SEARCH),), STAYS + ([],)],
    "height_of": [SEARCH + (best_tree(*SEARCH),), STAYS + ([[0, [()]]],)],
    "hard_paper": [STAYS + (3,)],
    "is_hard": [STAYS + (3, hard_paper(*STAYS, 3)), STAYS + (3, [[3, [STAYS[1]]]])],
    "endless_paper": [STAYS],
    "is_endless": [STAYS + (endless_paper(*STAYS),), STAYS + ([list(STAYS[1])],)],
    "blind_row": [SEARCH],
    "blind_paper": [STAYS],
    "is_blind_paper": [STAYS + (blind_paper(*STAYS),), STAYS + ([list(STAYS[1])],)],
    "least_cost": [SEARCH],
    "cheapest_tree": [SEARCH],
    "dear_paper": [STAYS + (3,)],
    "cost_of": [SEARCH + (best_tree(*SEARCH),), STAYS + ([[0, [()]]],)],
    "is_dear": [STAYS + (3, dear_paper(*STAYS, 3)), STAYS + (3, [[3, [STAYS[1]]]])],
    "judge": [(("endless",) + STAYS + (endless_paper(*STAYS),),), (("way", SECOND, STANDING, (1, 0), [[0], [1]]),)],
    "are_twins": [(SECOND, STANDING, STANDING)],
}
# Each class with arguments, and calls of its methods one after the other.
HISTORIES = (
    (Store, (SECOND, STANDING), (
        ("ask", 1), ("asked",), ("ask", 0), ("ask", [0]), ("rule",), ("standing",), ("asked",),
    )),
    (Seeker, SEARCH[:2], (
        ("lot",), ("log",), ("marks",), ("left", ("case",)), ("next_item", ("case",)), ("mark",), ("would", 1, 1),
        ("told", 1, 1), ("log",), ("mark",), ("marks",), ("told", 1, [1]), ("told", [1], 1), ("told", 1, 1), ("lot",),
        ("back", [1]), ("back", 1), ("log",), ("left", ["case"]), ("next_item", ["case"]), ("next_item", ("order",)),
        ("back", 0), ("marks",), ("lot",), ("would", 0, []), ("left", ("sorted", [1, 0])),
    )),
    (Crowd, SEARCH[:2] + (3,), (
        ("lot", 0), ("shared",), ("told", 1, 0, 1), ("lot", 1), ("lot", 0), ("shared",), ("called", 1), ("shared",),
        ("told", [1], 0, 1), ("told", 1, [0], 1), ("told", 1, 0, [1]), ("called", [1]), ("lot", [1]), ("lot", 2),
    )),
)


def arguments_of(name, names):
    """Tuples of arguments of the function."""
    return SPECIAL.get(name) or [tuple([ARGUMENTS[one][0] for one in names])]


def spoil(value):
    """Change all lists in the value, and the lists in them."""
    for entry in value if isinstance(value, (list, tuple)) else ():
        spoil(entry)
    if isinstance(value, list):
        value.reverse()
        value.append(["spoilt"])
        del value[:1]


def told_by(call, *arguments):
    """What the call tells or raises."""
    try:
        return call(*arguments)
    except SortError as error:
        return [type(error).__name__]


def made_again(value):
    """An equal value with no list in common."""
    if isinstance(value, (list, tuple)):
        return type(value)([made_again(entry) for entry in value])
    return value


class TestFunctions(Checks):
    def test_nothing_that_is_passed_is_changed(self):
        for module, name, names in FUNCTIONS:
            for arguments in arguments_of(name, names):
                with self.subTest(name=name):
                    before = strictly(arguments)
                    told = getattr(module, name)(*arguments)
                    self.assertEqual(strictly(arguments), before)
                    # Nor is a list that was passed told again: what is done to the told one would change it.
                    spoil(told)
                    self.assertEqual(strictly(arguments), before)

    def test_equal_arguments_tell_the_same_whatever_is_done_to_what_was_told(self):
        for module, name, names in FUNCTIONS:
            for arguments in arguments_of(name, names):
                with self.subTest(name=name):
                    told = getattr(module, name)(*arguments)
                    wanted = strictly(told)
                    for _ in range(3):
                        spoil(told)
                        told = getattr(module, name)(*made_again(arguments))
                        self.assertEqual(strictly(told), wanted)

    def test_each_wrong_argument(self):
        for module, name, names in FUNCTIONS:
            # In stage 1 no rule tells of how many items an order is, and in stage 15 other is a standing:
            # tests/test_orders.py and tests/test_twins.py look at these.
            if module not in (orders, twins) and names[0] in ("rule", "rules") and "value" not in names:
                self.check_arguments(getattr(module, name), *names)

    def test_each_wrong_argument_before_a_value(self):
        for module, name, names in FUNCTIONS:
            if names[0] in ("rule", "rules") and names[-1] == "value":
                call, right = getattr(module, name), arguments_of(name, names)[0][-1]
                for value in (right,) if name == "behind" else (right, None):
                    self.check_arguments(lambda *rest: call(*rest, value), *names[:-1])

    def test_wrong_numbers_of_items(self):
        for number, items in enumerate([value for value in odd_values() if value != 4] + [0, 1, nested(90, list)]):
            with self.subTest(number=number):
                for name, rest in (("is_order", [None]), ("all_orders", [])):
                    self.check_raises(NoItems, getattr(orders, name), items, *rest)
        self.check_raises(NoOrder, orders.moved, None, None, None)
        self.check_raises(NoItem, orders.moved, (0, 1), None, None)

    def test_errors_are_the_same_each_time(self):
        for module, name, names in FUNCTIONS:
            told = [strictly(told_by(getattr(module, name), *[None] * len(names))) for _ in range(3)]
            self.assertEqual(len(set(told)), 1)


class TestMethods(Checks):
    def test_equal_histories_tell_the_same_whatever_is_done_to_what_was_told(self):
        for kind, arguments, calls in HISTORIES:
            first, second = kind(*arguments), kind(*made_again(arguments))
            for word, *rest in calls:
                with self.subTest(kind=kind.__name__, word=word):
                    told = told_by(getattr(first, word), *rest)
                    self.assertEqual(strictly(told_by(getattr(second, word), *rest)), strictly(told))
                    spoil(told)

    def test_nothing_that_is_passed_is_changed(self):
        for kind, arguments, calls in HISTORIES:
            before = strictly([arguments, calls])
            one = kind(*arguments)
            for word, *rest in calls:
                spoil(told_by(getattr(one, word), *rest))
            self.assertEqual(strictly([arguments, calls]), before)

    def test_a_wrong_call_changes_nothing(self):
        for kind, arguments, calls in HISTORIES:
            first, second = kind(*arguments), kind(*arguments)
            for word, *rest in calls:
                with self.subTest(kind=kind.__name__, word=word):
                    # The second one is besides called with wrong arguments, as many as there are, before each call.
                    if rest:
                        self.assertRaises(SortError, getattr(second, word), *[nested(3, list)] * len(rest))
                        self.assertRaises(SortError, getattr(second, word), *rest[:-1], True)
                    self.assertEqual(strictly(told_by(getattr(second, word), *rest)), strictly(
                        told_by(getattr(first, word), *rest)))

    def test_each_wrong_argument_of_the_classes(self):
        self.check_arguments(Store, "rule", "standing")
        self.check_arguments(Seeker, "rules", "lot")
        self.check_arguments(lambda rules, lot: Crowd(rules, lot, 4), "rules", "lot")
