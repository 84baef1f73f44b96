"""Points 2 and 11, and selfsort/goals.py."""

from selfsort.goals import is_goal, reaches
from selfsort.lots import first_lot
from selfsort.rules import named_rule
from selfsort.wrongs import NoGoal
from tests import words
from tests.checks import FRONT, LOT, RULES, SECOND, STILL, Checks
from tests.samples import Draw, near, nested, odd_values, strictly, unchanged_by

EXAMPLE = """
>>> from selfsort.rules import named_rule
>>> from selfsort.goals import is_goal, reaches
>>> rules = (named_rule(2, 'front'), named_rule(2, 'still'))
>>> lot = ((0, ((0, 1), (0, 0))), (1, ((0, 1), (0, 0))))
>>> [reaches(rules, lot, goal) for goal in (('order',), ('sorted', (0, 1)), ('rule',), ('case',), ('front', 1))]
[True, True, False, False, False]
>>> [is_goal(rules, ('front', 2)), is_goal(rules, ('order', ()))]
[False, False]
"""


def every_goal(items):
    """All goals of rules with so many items."""
    goals = [("order",), ("rule",), ("case",)] + [("front", item) for item in range(items)]
    return goals + [("sorted", order) for order in words.every_order(items)]


class TestExamples(Checks):
    def test_the_example_of_the_interface(self):
        self.check_examples(EXAMPLE)

    def test_arguments_may_be_passed_by_name(self):
        self.assertIs(is_goal(rules=RULES, value=("order",)), True)
        self.assertIs(reaches(rules=RULES, lot=LOT[:1], goal=("case",)), True)


class TestIsGoal(Checks):
    def test_just_the_goals(self):
        for items in (2, 3, 4):
            rules = (named_rule(items, "second"),)
            for other in (2, 3, 4):
                for goal in every_goal(other):
                    wanted = goal in every_goal(items)
                    self.assertIs(is_goal(rules, goal), wanted, goal)

    def test_values_near_goals(self):
        for items in (2, 3, 4):
            rules = (named_rule(items, "still"),) * 2
            for goal in every_goal(items)[:9]:
                for value in near(goal):
                    self.assertIs(is_goal(rules, value), words.is_goal(items, value), strictly(value))

    def test_another_word(self):
        for word in ("orders", "Order", "order ", "", "sort", "fronts", "rules", "cases", 0, None, True, ("order",)):
            for value in ((word,), (word, 0), (word, (0, 1)), word):
                with self.subTest(value=value):
                    self.assertIs(is_goal(RULES, value), value == ("order",))

    def test_another_length(self):
        for value in ((), ("order", ()), ("order", 0), ("rule", 0), ("case", 1), ("case", "case"), ("sorted",),
                      ("front",), ("sorted", (0, 1), (0, 1)), ("sorted", 0, 1), ("front", 0, 1), ("order", "order")):
            with self.subTest(value=value):
                self.assertIs(is_goal(RULES, value), False)

    def test_an_item_or_an_order_that_is_not_right(self):
        for item in (-1, 2, 3, True, False, None, "0", (0,), [0], (), 10 ** 19999):
            self.assertIs(is_goal(RULES, ("front", item)), False)
        for order in ((0, 2), (0, 0), (0, 1, 2), (0,), (), (False, True), (0, True), [0, 1], 0, "01", None):
            self.assertIs(is_goal(RULES, ("sorted", order)), False)

    def test_lists_are_no_tuples(self):
        for value in (["order"], ["rule"], ["case"], ["front", 0], ["sorted", (0, 1)], ("sorted", [0, 1])):
            self.assertIs(is_goal(RULES, value), False)

    def test_odd_values(self):
        for index, value in enumerate(odd_values() + [nested(90, tuple)]):
            with self.subTest(index=index):
                self.assertIs(is_goal(RULES, value), False)
                self.assertIs(is_goal(RULES, (value,)), False)
                self.assertIs(is_goal(RULES, ("sorted", value)), False)
                self.assertIs(is_goal(RULES, ("front", value)), False)

    def test_wrong_arguments(self):
        self.check_arguments(is_goal, "rules", "value")


class TestReaches(Checks):
    zero = (0, 0)
    rules = (FRONT, STILL)

    def told(self, lot):
        """The goals that the lot reaches."""
        return [goal for goal in every_goal(2) if reaches(self.rules, lot, goal)]

    def test_lots_of_one_case(self):
        self.assertEqual(self.told(((0, ((0, 1), self.zero)),)), [
            ("order",), ("rule",), ("case",), ("front", 0), ("sorted", (0, 1))])
        self.assertEqual(self.told(((1, ((1, 0), self.zero)),)), [
            ("order",), ("rule",), ("case",), ("front", 1), ("sorted", (1, 0))])

    def test_lots_of_several_cases(self):
        one, other = ((0, 1), self.zero), ((1, 0), self.zero)
        self.assertEqual(self.told(((0, one), (1, one))), [("order",), ("front", 0), ("sorted", (0, 1))])
        self.assertEqual(self.told(((0, one), (0, other))), [("rule",)])
        self.assertEqual(self.told(((0, one), (1, other))), [])
        self.assertEqual(self.told(((0, one), (0, other), (1, one), (1, other))), [])

    def test_flags_do_not_count_but_for_the_case(self):
        lot = ((0, ((1, 0), (0, 0))), (0, ((1, 0), (0, 1))))
        told = [goal for goal in every_goal(2) if reaches((SECOND,), lot, goal)]
        self.assertEqual(told, [("order",), ("rule",), ("front", 1), ("sorted", (1, 0))])

    def test_just_the_last_case_differs(self):
        rules = (named_rule(3, "front"),) * 2
        standings = [((0, 1, 2), (0,) * 3), ((0, 2, 1), (0,) * 3), ((1, 0, 2), (0,) * 3)]
        lot = ((0, standings[0]), (0, standings[1]), (0, standings[2]))
        self.assertEqual([reaches(rules, lot[:many], ("front", 0)) for many in (1, 2, 3)], [True, True, False])
        self.assertEqual([reaches(rules, lot[:many], ("order",)) for many in (1, 2, 3)], [True, False, False])
        lot = ((0, standings[0]), (0, standings[1]), (1, standings[0]))
        self.assertEqual([reaches(rules, lot[:many], ("rule",)) for many in (1, 2, 3)], [True, True, False])

    def test_drawn_lots_by_the_words(self):
        draw, told = Draw(11), {}
        for number in range(150):
            rules = draw.rules(2 + number % 3, 1 + draw.below(3))
            cases = words.every_case(rules)
            # Half of the lots have the same item at the front in all cases, so that more goals are reached.
            alike = [case for case in cases if case[1][0][0] == number % 2]
            lot = tuple(sorted(draw.some(draw.one([cases, alike]), 1 + draw.below(3))))
            for goal in every_goal(rules[0][0]):
                wanted = words.reaches(lot, goal)
                self.assertIs(reaches(rules, lot, goal), wanted)
                told[goal[0], len(lot) > 1, wanted] = True
        self.assertEqual(len(told), 16)

    def test_wrong_arguments(self):
        self.check_arguments(reaches, "rules", "lot", "goal")
        self.check_raises(NoGoal, reaches, RULES, LOT, ("sorted", (0, 1, 2)))


class TestNothingChanges(Checks):
    def test_nothing_that_is_passed_is_changed(self):
        for goal in (["order"], ("sorted", [0, 1]), ["sorted", [0, 1]], ("front", [0])):
            self.assertTrue(unchanged_by(is_goal, RULES, goal))
            self.assertTrue(unchanged_by(reaches, RULES, LOT, goal))
            self.assertTrue(unchanged_by(reaches, RULES, [list(case) for case in LOT], goal))

    def test_equal_arguments_tell_the_same(self):
        for _ in range(3):
            self.assertIs(reaches((FRONT,), first_lot((FRONT,)), ("rule",)), True)
            self.assertIs(is_goal(RULES, ("front", 1)), True)
            self.check_raises(NoGoal, reaches, RULES, LOT, ("front", True))
