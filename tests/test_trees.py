"""Points 2 and 12, and selfsort/trees.py."""

from selfsort.lots import behind, first_lot
from selfsort.rules import named_rule
from selfsort.trees import best_tree, height_of, is_tree, least_asks
from selfsort.wrongs import NoGoal, NoLot, NoRules, TooMany
from tests import words
from tests.borders import LOT_OF_600, LOT_OF_601, RULES_OF_600, RULES_OF_601
from tests.checks import FRONT, LOT, RULES, SECOND, STILL, Checks
from tests.samples import near, nested, odd_values, strictly, unchanged_by
from tests.searches import drawn_searches, with_tree, without_tree

EXAMPLE = """
>>> from selfsort.rules import named_rule
>>> from selfsort.lots import first_lot
>>> from selfsort.trees import best_tree, height_of, is_tree, least_asks
>>> rules = (named_rule(2, 'front'),)
>>> lot = first_lot(rules)
>>> [least_asks(rules, lot, ('order',)), least_asks(rules, lot, ('sorted', (1, 0))), is_tree(rules, lot, ('order',), ())]
[1, 1, False]
>>> [best_tree(rules, lot, ('sorted', (1, 0))), height_of(rules, lot, ('order',), (0, ((0, ()), (1, ()))))]
[(1, ((0, ()), (1, ()))), 1]
"""
GOALS_OF_2 = (("order",), ("rule",), ("case",), ("front", 0), ("front", 1), ("sorted", (0, 1)), ("sorted", (1, 0)))
# The lot of both orders of two items by the rule "front": one ask for any item tells the order.
BOTH = first_lot((FRONT,))
TREE = (0, ((0, ()), (1, (1, ((1, ()),)))))


class TestExamples(Checks):
    def test_the_example_of_the_interface(self):
        self.check_examples(EXAMPLE)

    def test_arguments_may_be_passed_by_name(self):
        self.assertEqual(least_asks(rules=RULES, lot=LOT[:1], goal=("case",)), 0)
        self.assertEqual(best_tree(rules=RULES, lot=LOT[:1], goal=("case",)), ())
        self.assertIs(is_tree(rules=RULES, lot=LOT[:1], goal=("case",), value=()), True)
        self.assertEqual(height_of(rules=RULES, lot=LOT[:1], goal=("case",), value=()), 0)


class TestLeastAsks(Checks):
    def test_no_tree_is_lower_by_the_words(self):
        heights = {}
        for rules, lot, goal in with_tree():
            told, known = least_asks(rules, lot, goal), {}
            self.check_strictly(told, int)
            self.assertIs(words.reached_within(rules, lot, goal, told, known), True)
            self.assertIs(told == 0 or not words.reached_within(rules, lot, goal, told - 1, known), True)
            heights[told] = True
        self.assertLessEqual({0, 1, 2, 3, 4}, set(heights))

    def test_none_exactly_where_there_is_no_tree_by_the_words(self):
        for search in without_tree():
            self.assertIsNone(least_asks(*search))
            self.assertIsNone(best_tree(*search))
        for search in with_tree():
            self.assertIsNotNone(least_asks(*search))

    def test_0_where_the_lot_reaches_the_goal(self):
        for rules, lot, goal in drawn_searches():
            self.assertIs(least_asks(rules, lot, goal) == 0, words.reaches(lot, goal))
            self.assertIs(strictly(best_tree(rules, lot, goal)) == "tuple()", words.reaches(lot, goal))

    def test_named_rules(self):
        lots = {name: first_lot((named_rule(3, name),)) for name in ("front", "ahead", "still", "second")}
        told = {name: [least_asks((named_rule(3, name),), lot, goal) for goal in (("order",), ("front", 2), ("case",))]
                for name, lot in lots.items()}
        self.assertEqual(told, {"front": [2, 1, 2], "ahead": [2, 2, 2], "still": [2, None, 2], "second": [2, 2, 2]})

    def test_to_sort_unseen(self):
        rules = (named_rule(4, "front"),)
        self.assertEqual(least_asks(rules, first_lot(rules), ("sorted", (0, 1, 2, 3))), 3)
        rules = (named_rule(4, "still"),)
        self.assertIsNone(least_asks(rules, first_lot(rules), ("sorted", (0, 1, 2, 3))))

    def test_wrong_arguments(self):
        self.check_arguments(least_asks, "rules", "lot", "goal")


class TestBestTree(Checks):
    def test_a_tree_of_the_least_height(self):
        for rules, lot, goal in with_tree():
            tree = best_tree(rules, lot, goal)
            self.assertEqual(words.height_of(rules, lot, goal, tree), least_asks(rules, lot, goal))
            self.assertEqual(height_of(rules, lot, goal, tree), least_asks(rules, lot, goal))
            self.assertIs(is_tree(rules, lot, goal, tree), True)

    def test_equal_ones_for_equal_arguments(self):
        for rules, lot, goal in with_tree()[:30]:
            self.assertEqual(strictly(best_tree(rules, lot, goal)), strictly(best_tree(rules, lot, goal)))

    def test_wrong_arguments(self):
        self.check_arguments(best_tree, "rules", "lot", "goal")


class TestTooMany(Checks):
    def test_exactly_where_more_than_600_lots_come(self):
        for goal in (("order",), ("case",), ("rule",), ("front", 3), ("sorted", (0, 2, 1, 3))):
            for call in (least_asks, best_tree):
                self.assertEqual(self.check_raises(TooMany, call, RULES_OF_601, LOT_OF_601, goal).limit, 600)
                call(RULES_OF_600, LOT_OF_600, goal)

    def test_also_if_the_lot_reaches_the_goal(self):
        self.assertIs(words.reaches(LOT_OF_601, ("rule",)), True)
        self.assertEqual([least_asks(RULES_OF_600, LOT_OF_600, ("rule",)), best_tree(
            RULES_OF_600, LOT_OF_600, ("rule",))], [0, ()])
        self.check_raises(TooMany, least_asks, RULES_OF_601, LOT_OF_601, ("rule",))
        self.check_raises(TooMany, best_tree, RULES_OF_601, LOT_OF_601, ("rule",))

    def test_the_arguments_are_looked_at_first(self):
        for call in (least_asks, best_tree):
            self.check_raises(NoGoal, call, RULES_OF_601, LOT_OF_601, ("front", 4))
            self.check_raises(NoLot, call, RULES_OF_601, LOT_OF_601[::-1], ("rule",))

    def test_not_from_is_tree_and_height_of(self):
        self.assertIs(is_tree(RULES_OF_601, LOT_OF_601, ("rule",), ()), True)
        self.assertIs(is_tree(RULES_OF_601, LOT_OF_601, ("case",), ()), False)
        self.assertEqual(height_of(RULES_OF_601, LOT_OF_601, ("rule",), ()), 0)
        tree = (0, tuple([(answer, ()) for answer in words.lots_behind(RULES_OF_601, LOT_OF_601, 0)]))
        self.assertEqual(height_of(RULES_OF_601, LOT_OF_601, ("rule",), tree), 1)
        self.assertIsNone(height_of(RULES_OF_601, LOT_OF_601, ("case",), tree))


class TestIsTree(Checks):
    def judged(self, value, rules=(FRONT,), lot=BOTH, goal=("order",)):
        """Whether is_tree calls the value a tree; height_of tells the same, and so do the words."""
        told, height = is_tree(rules, lot, goal, value), height_of(rules, lot, goal, value)
        self.check_strictly(told, bool)
        self.assertEqual(strictly(height), strictly(words.height_of(rules, lot, goal, value)))
        self.assertIs(told, height is not None)
        return told

    def test_trees_that_go_on_where_the_goal_is_reached(self):
        self.assertEqual([self.judged(TREE), height_of((FRONT,), BOTH, ("order",), TREE)], [True, 2])
        alone = ((0, ((0, 1), (0, 0))),)
        for goal in (("order",), ("case",), ("rule",)):
            self.assertEqual(height_of((FRONT,), alone, goal, (1, ((1, (1, ((0, ()),))),))), 2)
        self.assertIsNone(height_of((FRONT,), alone, ("front", 0), (1, ((1, ()),))))

    def test_the_height_is_that_of_the_greatest_branch(self):
        long, short = (0, ((0, (0, ((0, ()),))),)), ()
        for left, right, height in ((short, short, 1), (long, short, 3), (short, long, 3), (long, long, 3)):
            self.assertEqual(height_of((FRONT,), BOTH, ("order",), (0, ((0, left), (1, right)))), height)

    def test_a_branch_left_out_or_put_in_twice(self):
        for branches in ((), ((0, ()),), ((1, ()),), ((0, ()), (0, ()), (1, ())), ((0, ()), (1, ()), (1, ()))):
            self.assertIs(self.judged((0, branches)), False)
        for branches in ((), ((1, ()),), ((0, ()), (0, ())), ((0, ()), (1, ()))):
            self.assertIs(self.judged((0, ((0, (0, branches)), (1, ())))), False)
        self.assertIs(self.judged((0, ((0, (0, ((0, ()),))), (1, ())))), True)

    def test_branches_in_another_order(self):
        self.assertIs(self.judged((0, ((0, ()), (1, ())))), True)
        self.assertIs(self.judged((0, ((1, ()), (0, ())))), False)
        for rules, lot, goal in with_tree():
            tree = best_tree(rules, lot, goal)
            if tree != () and len(tree[1]) > 1:
                self.assertIs(self.judged((tree[0], tree[1][::-1]), rules, lot, goal), False)

    def test_an_answer_that_does_not_come(self):
        for branches in (((0, ()), (1, ()), (2, ())), ((-1, ()), (0, ()), (1, ())), ((0, ()), (2, ()))):
            self.assertIs(self.judged((0, branches)), False)
        alone = ((0, ((0, 1), (0, 0))),)
        told = [self.judged((1, ((answer, ()),)), lot=alone) for answer in (0, 1, 2, True, None, "1")]
        self.assertEqual(told, [False, True, False, False, False, False])

    def test_an_empty_tree_where_the_goal_is_not_reached(self):
        self.assertIs(self.judged(()), False)
        self.assertIs(self.judged((0, ((0, ()), (1, ()))), goal=("sorted", (1, 0))), False)
        rules = (named_rule(3, "front"),)
        for rules, lot, goal in drawn_searches():
            self.assertIs(self.judged((), rules, lot, goal), words.reaches(lot, goal))

    def test_items_that_are_none(self):
        for item in (2, -1, True, False, None, "0", (0,), [0], 10 ** 19999):
            self.assertIs(is_tree((FRONT,), BOTH, ("order",), (item, ((0, ()), (1, ())))), False)

    def test_lists_for_tuples(self):
        for value in ([], [0, ((0, ()), (1, ()))], (0, [(0, ()), (1, ())]), (0, ([0, ()], (1, ()))),
                      (0, ((0, []), (1, ()))), (0, ((0, ()), (1, [])))):
            self.assertIs(self.judged(value), False)

    def test_true_for_1(self):
        self.assertIs(self.judged((True, ((0, ()), (1, ())))), False)
        self.assertIs(self.judged((1, ((0, ()), (1, ())))), True)
        self.assertIs(self.judged((0, ((0, ()), (True, ())))), False)
        self.assertIs(self.judged((0, ((False, ()), (1, ())))), False)

    def test_values_near_trees(self):
        for value in near(TREE):
            self.judged(value)
        for rules, lot, goal in with_tree()[::9]:
            for value in near(best_tree(rules, lot, goal)):
                self.judged(value, rules, lot, goal)

    def test_trees_of_another_search(self):
        for one, other in zip(with_tree(), with_tree()[1:] + without_tree()):
            self.judged(best_tree(*one), *other)

    def test_other_kinds_nested_deep(self):
        # The empty tuple is a tree in the place of a branch, where it is not odd.
        values = [value for value in odd_values() if value != ()] + [nested(90, tuple), nested(90, list), "()", 0]
        for index, value in enumerate(values):
            with self.subTest(index=index):
                for tree in (value, (0, value), (0, (value, (1, ()))), (0, ((0, value), (1, ()))),
                             (0, ((0, ()), (1, value))), (0, ((0, ()), (value, ()))), (0, ((0, ()), (1, ()), value))):
                    self.assertIs(is_tree((FRONT,), BOTH, ("order",), tree), False)
                    self.assertIsNone(height_of((FRONT,), BOTH, ("order",), tree))

    def test_very_high_trees(self):
        alone, tree = ((0, ((0, 1), (0, 0))),), ()
        for _ in range(5000):
            tree = (0, ((0, tree),))
        self.assertEqual(height_of((STILL,), alone, ("front", 0), tree), 5000)
        self.assertIs(is_tree((STILL,), alone, ("front", 0), tree), True)
        self.assertIs(is_tree((STILL,), alone, ("front", 1), tree), False)
        self.assertIs(is_tree((STILL,), alone, ("front", 0), (0, ((1, tree),))), False)

    def test_wrong_arguments(self):
        self.check_arguments(is_tree, "rules", "lot", "goal", "value")
        self.check_arguments(height_of, "rules", "lot", "goal", "value")
        for call in (is_tree, height_of):
            self.check_raises(NoRules, call, None, LOT, ("order",), ())
            self.check_raises(NoLot, call, RULES, (), ("order",), ())
            self.check_raises(NoGoal, call, RULES, LOT, ("order", 0), ())


class TestHighTrees(Checks):
    def check_high(self, rule, lot, order, height):
        """The least height is this one, and the best tree is judged right though it is nested deep."""
        search = ((rule,), lot, ("sorted", order))
        tree = best_tree(*search)
        self.assertEqual([least_asks(*search), height_of(*search, tree)], [height, height])
        self.assertIs(words.reached_within(*search, height, {}), True)
        self.assertIs(words.reached_within(*search, height - 1, {}), False)
        for value in (tree[:1] + (tree[1] + ((3, ()),),), (tree[0], ((tree[1][0][0], tree),))):
            self.assertEqual(height_of(*search, value), words.height_of(*search, value))

    def test_a_case_alone(self):
        rule = (4, 2, (((0, 0), (0, 0)), ((1, 0), (1, 1)), ((2, 0), (2, 1)), ((0, 1), (2, 0))))
        self.check_high(rule, ((0, ((0, 1, 2, 3), (0, 0, 0, 0))),), (2, 0, 3, 1), 15)

    def test_two_cases(self):
        rule = (4, 2, (((0, 1), (0, 0)), ((1, 0), (1, 1)), ((0, 1), (2, 1)), ((0, 1), (3, 0))))
        lot = ((0, ((1, 0, 3, 2), (0, 1, 0, 0))), (0, ((2, 0, 1, 3), (1, 1, 1, 1))))
        self.check_high(rule, lot, (0, 1, 2, 3), 12)


class TestNothingChanges(Checks):
    def test_nothing_that_is_passed_is_changed(self):
        for lot in (LOT, list(LOT), [list(case) for case in LOT]):
            for goal in (("order",), ["order"], ("sorted", [0, 1])):
                self.assertTrue(unchanged_by(least_asks, RULES, lot, goal))
                self.assertTrue(unchanged_by(best_tree, RULES, lot, goal))
                for value in ([0, [[0, []], [1, []]]], (0, ([0, []], (1, ()))), TREE):
                    self.assertTrue(unchanged_by(is_tree, RULES, lot, goal, value))
                    self.assertTrue(unchanged_by(height_of, RULES, lot, goal, value))

    def test_equal_arguments_tell_the_same(self):
        for _ in range(3):
            self.assertEqual([least_asks((SECOND,), first_lot((SECOND,)), goal) for goal in GOALS_OF_2],
                             [1, 0, 1, 2, 2, 2, 2])
            self.assertIs(is_tree((FRONT,), BOTH, ("order",), TREE), True)
            self.assertEqual(behind((FRONT,), BOTH, 0, 1), BOTH[:1])
