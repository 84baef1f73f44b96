"""Points 2 and 15, and selfsort/costs.py."""

from selfsort.costs import cheapest_tree, cost_of, dear_paper, is_dear, least_cost
from selfsort.lots import first_lot
from selfsort.rules import named_rule
from selfsort.trees import best_tree, height_of, is_tree, least_asks
from selfsort.wrongs import NoGoal, NoLot, NoNumber, NoRules, TooMany
from tests import words
from tests.borders import LOT_OF_600, LOT_OF_601, RULES_OF_600, RULES_OF_601
from tests.checks import FRONT, LOT, RULES, STILL, Checks
from tests.samples import near, near_paper, nested, odd_values, strictly, unchanged_by
from tests.searches import drawn_searches, with_tree, without_tree

EXAMPLE = """
>>> from selfsort.rules import named_rule
>>> from selfsort.lots import first_lot
>>> from selfsort.costs import cost_of, dear_paper, is_dear, least_cost
>>> rules = (named_rule(2, 'front'),)
>>> lot = first_lot(rules)
>>> [least_cost(rules, lot, ('order',)), cost_of(rules, lot, ('order',), (0, ((0, ()), (1, ())))), dear_paper(rules, lot, ('order',), 2)]
[2, 2, None]
>>> [is_dear(rules, lot, ('order',), 1, [(1, lot)]), is_dear(rules, lot, ('order',), 2, [(2, lot)])]
[True, False]
"""
GOALS = (("order",), ("case",), ("rule",), ("front", 3), ("sorted", (0, 2, 1, 3)))
NO_NUMBERS = [-1, 101, True, False, None, "1", (1,), [1], (), 10 ** 19999, -(10 ** 19999)]
# The lot of both orders of two items by the rule "front": one ask for any item tells the order.
BOTH = first_lot((FRONT,))
TREE = (0, ((0, ()), (1, (1, ((1, ()),)))))
STAYS = first_lot((STILL,))
ONE, OTHER = STAYS[:1], STAYS[1:]
# The goal that one of both orders never reaches by the rule "still".
TURNED = ("sorted", (1, 0))
THREE = (named_rule(3, "front"),)
# In each of these three or four asks cost less at worst than any two or three do.
DEAR_SEARCHES = (
    (
        (named_rule(3, "still"), named_rule(3, "ahead")), (
            (0, ((0, 1, 2), (0, 0, 0))), (0, ((2, 0, 1), (0, 0, 0))), (1, ((0, 1, 2), (0, 0, 0))),
            (1, ((2, 0, 1), (0, 0, 0))),
        ), ("case",),
    ),
    (
        (named_rule(4, "ahead"),),
        ((0, ((0, 3, 1, 2), (0, 0, 0, 0))), (0, ((2, 0, 1, 3), (0, 0, 0, 0)))), ("sorted", (0, 2, 1, 3)),
    ),
)


def least_within(rules, lot, goal, asks):
    """The least cost at worst of the trees with at most so many asks, by trying all of them, or None."""
    if words.reaches(lot, goal):
        return 0
    costs = []
    for item in range(rules[0][0]) if asks else []:
        parts = words.lots_behind(rules, lot, item).items()
        found = [(depth, least_within(rules, part, goal, asks - 1)) for depth, part in parts]
        if all(cost is not None for _, cost in found):
            costs.append(max(1 + depth + cost for depth, cost in found))
    return min(costs, default=None)


class TestExamples(Checks):
    def test_the_example_of_the_interface(self):
        self.check_examples(EXAMPLE)

    def test_arguments_may_be_passed_by_name(self):
        self.assertEqual(least_cost(rules=RULES, lot=LOT[:1], goal=("case",)), 0)
        self.assertEqual(cheapest_tree(rules=RULES, lot=LOT[:1], goal=("case",)), ())
        self.assertEqual(cost_of(rules=RULES, lot=LOT[:1], goal=("case",), value=()), 0)
        self.assertIsNone(dear_paper(rules=RULES, lot=LOT[:1], goal=("case",), k=0))
        self.assertIs(is_dear(rules=RULES, lot=LOT[:1], goal=("case",), k=0, value=[]), False)


class TestLeastCost(Checks):
    def test_no_tree_is_cheaper_by_the_words(self):
        costs = {}
        for rules, lot, goal in with_tree():
            told, known = least_cost(rules, lot, goal), {}
            self.check_strictly(told, int)
            self.assertIs(words.reached_for(rules, lot, goal, told, known), True)
            self.assertIs(told == 0 or not words.reached_for(rules, lot, goal, told - 1, known), True)
            costs[told] = True
        self.assertLessEqual({0, 2, 3, 4, 5, 6, 7, 8}, set(costs))

    def test_none_exactly_where_there_is_no_tree(self):
        for search in without_tree():
            self.assertEqual([least_cost(*search), cheapest_tree(*search)], [None, None])
        for search in with_tree():
            self.assertIsNotNone(least_cost(*search))

    def test_0_where_the_lot_reaches_the_goal(self):
        for rules, lot, goal in drawn_searches():
            self.assertIs(least_cost(rules, lot, goal) == 0, words.reaches(lot, goal))
            self.assertIs(strictly(cheapest_tree(rules, lot, goal)) == "tuple()", words.reaches(lot, goal))

    def test_named_rules(self):
        lots = {name: first_lot((named_rule(3, name),)) for name in ("front", "ahead", "still", "second")}
        told = {name: [least_cost((named_rule(3, name),), lot, goal) for goal in (("order",), ("front", 2), ("case",))]
                for name, lot in lots.items()}
        self.assertEqual(told, {"front": [6, 3, 6], "ahead": [6, 5, 6], "still": [5, None, 5], "second": [5, 6, 5]})

    def test_an_ask_costs_one_more_than_the_depth(self):
        rules, lot = (named_rule(4, "still"),), ((0, ((0, 1, 2, 3), (0,) * 4)),)
        for place in range(4):
            self.assertEqual(cost_of(rules, lot, ("case",), (place, ((place, ()),))), place + 1)

    def test_wrong_arguments(self):
        self.check_arguments(least_cost, "rules", "lot", "goal")


class TestCheapestTree(Checks):
    def test_a_tree_of_the_least_cost(self):
        for rules, lot, goal in with_tree():
            tree = cheapest_tree(rules, lot, goal)
            self.assertIs(is_tree(rules, lot, goal, tree), True)
            self.assertEqual(words.cost_of(rules, lot, goal, tree), least_cost(rules, lot, goal))
            self.assertEqual(cost_of(rules, lot, goal, tree), least_cost(rules, lot, goal))

    def test_it_may_have_more_asks_than_a_tree_of_the_fewest(self):
        wanted = [[2, 3, None, 6, 5, 5], [3, 4, None, None, 11, 10]]
        for search, (fewest, more, *costs) in zip(DEAR_SEARCHES, wanted):
            self.assertEqual([least_within(*search, asks) for asks in (1, 2, 3, 4)], costs)
            self.assertEqual([least_asks(*search), height_of(*search, cheapest_tree(*search))], [fewest, more])
            self.assertEqual([least_cost(*search), cost_of(*search, cheapest_tree(*search))], costs[-1:] * 2)
            self.assertEqual(height_of(*search, best_tree(*search)), fewest)
            self.assertGreater(cost_of(*search, best_tree(*search)), least_cost(*search))
            self.assertIs(is_dear(*search, costs[-1] - 1, dear_paper(*search, costs[-1] - 1)), True)
            self.assertIsNone(dear_paper(*search, costs[-1]))

    def test_costs_of_few_asks_by_trying_all_trees(self):
        for search in with_tree():
            height = height_of(*search, cheapest_tree(*search))
            if height <= 3:
                self.assertEqual(least_within(*search, height), least_cost(*search))

    def test_equal_ones_for_equal_arguments(self):
        for search in with_tree()[:30]:
            self.assertEqual(strictly(cheapest_tree(*search)), strictly(cheapest_tree(*search)))

    def test_wrong_arguments(self):
        self.check_arguments(cheapest_tree, "rules", "lot", "goal")


class TestCostOf(Checks):
    def told(self, value, rules=(FRONT,), lot=BOTH, goal=("order",)):
        """What cost_of tells of the value; the words tell the same, and it is None for what is no tree."""
        cost = cost_of(rules, lot, goal, value)
        self.assertEqual(strictly(cost), strictly(words.cost_of(rules, lot, goal, value)))
        self.assertIs(cost is None, not is_tree(rules, lot, goal, value))
        return cost

    def test_trees_that_go_on_where_the_goal_is_reached(self):
        self.assertEqual(self.told(TREE), 4)
        alone = ((0, ((0, 1), (0, 0))),)
        self.assertEqual(self.told((1, ((1, (1, ((0, ()),))),)), lot=alone), 3)
        self.assertEqual([self.told(tree, lot=alone) for tree in ((), (0, ((0, ()),)), (1, ((1, ()),)))], [0, 1, 2])

    def test_the_cost_is_that_of_the_dearest_branch(self):
        long, short = (0, ((0, (0, ((0, ()),))),)), ()
        told = [self.told((0, ((0, left), (1, right)))) for left in (short, long) for right in (short, long)]
        self.assertEqual(told, [2, 4, 3, 4])
        longer = (0, ((0, long),))
        self.assertEqual([self.told((0, ((0, longer), (1, ())))), self.told((0, ((0, longer), (1, long))))], [4, 4])

    def test_the_branch_with_most_asks_need_not_be_the_dearest(self):
        lot = ((0, ((0, 1, 2), (0,) * 3)), (0, ((1, 2, 0), (0,) * 3)))
        tree = (0, ((0, (0, ((0, ()),))), (2, ())))
        self.assertEqual([self.told(tree, THREE, lot), height_of(THREE, lot, ("order",), tree)], [3, 2])

    def test_best_trees_and_those_of_other_searches(self):
        for one, other in zip(with_tree(), with_tree()[1:] + without_tree()):
            self.assertGreaterEqual(self.told(best_tree(*one), *one), least_cost(*one))
            self.told(best_tree(*one), *other)
            self.told(cheapest_tree(*one), *other)

    def test_a_branch_left_out_or_put_in_twice_or_in_another_order(self):
        for branches in ((), ((0, ()),), ((1, ()),), ((0, ()), (0, ()), (1, ())), ((0, ()), (1, ()), (1, ())),
                         ((1, ()), (0, ())), ((0, ()), (0, ())), ((0, ()), (1, ()), (2, ())), ((0, ()), (2, ()))):
            self.assertIsNone(self.told((0, branches)))
        self.assertEqual(self.told((0, ((0, ()), (1, ())))), 2)
        for rules, lot, goal in with_tree():
            tree = cheapest_tree(rules, lot, goal)
            if tree != () and len(tree[1]) > 1:
                self.assertIsNone(self.told((tree[0], tree[1][::-1]), rules, lot, goal))

    def test_an_empty_tree_where_the_goal_is_not_reached(self):
        for rules, lot, goal in drawn_searches():
            self.assertEqual(self.told((), rules, lot, goal), 0 if words.reaches(lot, goal) else None)

    def test_lists_for_tuples_and_true_for_1(self):
        for value in ([], [0, ((0, ()), (1, ()))], (0, [(0, ()), (1, ())]), (0, ([0, ()], (1, ()))),
                      (0, ((0, []), (1, ()))), (0, ((0, ()), (1, []))), (True, ((0, ()), (1, ()))),
                      (0, ((0, ()), (True, ()))), (0, ((False, ()), (1, ()))), (False, ((0, ()), (1, ())))):
            self.assertIsNone(self.told(value))

    def test_values_near_trees(self):
        for value in near(TREE):
            self.told(value)
        for search in with_tree()[::9]:
            for value in near(cheapest_tree(*search)):
                self.told(value, *search)

    def test_other_kinds_nested_deep(self):
        values = [value for value in odd_values() if value != ()] + [nested(90, tuple), nested(90, list), "()", 0]
        for index, value in enumerate(values):
            with self.subTest(index=index):
                for tree in (value, (0, value), (0, (value, (1, ()))), (0, ((0, value), (1, ()))),
                             (0, ((0, ()), (1, value))), (0, ((0, ()), (value, ()))), (0, ((0, ()), (1, ()), value))):
                    self.assertIsNone(cost_of((FRONT,), BOTH, ("order",), tree))

    def test_very_high_trees(self):
        alone, tree = ((0, ((0, 1), (0, 0))),), ()
        for number in range(5000):
            tree = (number % 2, ((number % 2, tree),))
        self.assertEqual(cost_of((STILL,), alone, ("front", 0), tree), 7500)
        self.assertIsNone(cost_of((STILL,), alone, ("front", 1), tree))
        self.assertIsNone(cost_of((STILL,), alone, ("front", 0), (0, ((1, tree),))))

    def test_wrong_arguments(self):
        self.check_arguments(cost_of, "rules", "lot", "goal", "value")
        for value in ((), None):
            self.check_raises(NoRules, cost_of, None, LOT, ("order",), value)
            self.check_raises(NoLot, cost_of, RULES, (), ("order",), value)
            self.check_raises(NoGoal, cost_of, RULES, LOT, ("order", 0), value)


class TestDearPaper(Checks):
    def test_exactly_where_no_tree_is_as_cheap(self):
        for rules, lot, goal in drawn_searches():
            cost = least_cost(rules, lot, goal)
            for k in range(11):
                paper = dear_paper(rules, lot, goal, k)
                self.assertIs(paper is None, cost is not None and cost <= k)
                self.assertIs(paper is None, words.reached_for(rules, lot, goal, k, {}))
                if paper is not None:
                    self.assertIs(is_dear(rules, lot, goal, k, paper), True)
                    self.assertIs(words.is_dear(rules, lot, goal, k, paper), True)

    def test_0_and_100(self):
        for rules, lot, goal in drawn_searches():
            paper = dear_paper(rules, lot, goal, 0)
            self.assertEqual(paper, None if words.reaches(lot, goal) else [(0, lot)])
        for rules, lot, goal in without_tree():
            paper = dear_paper(rules, lot, goal, 100)
            self.assertIs(is_dear(rules, lot, goal, 100, paper), True)
            self.assertIs(is_dear(rules, lot, goal, 99, paper), (99, lot) in paper)
        for rules, lot, goal in with_tree():
            self.assertIsNone(dear_paper(rules, lot, goal, 100))

    def test_it_is_judged_only_by_its_own_k(self):
        lot, goal = first_lot(THREE), ("sorted", (2, 0, 1))
        self.assertEqual(least_cost(THREE, lot, goal), 6)
        paper = dear_paper(THREE, lot, goal, 5)
        self.assertEqual([is_dear(THREE, lot, goal, k, paper) for k in (4, 5, 6, 100)], [False, True, False, False])

    def test_no_number(self):
        for k in NO_NUMBERS:
            self.check_raises(NoNumber, dear_paper, RULES, LOT, ("case",), k)
            self.check_raises(NoNumber, is_dear, RULES, LOT, ("case",), k, [])
        self.assertEqual([dear_paper(RULES, LOT[:1], ("case",), k) for k in (0, 1, 99, 100)], [None] * 4)

    def test_a_new_list_each_time(self):
        self.check_new_list(dear_paper, (STILL,), ONE, TURNED, 3)

    def test_wrong_arguments(self):
        self.check_arguments(dear_paper, "rules", "lot", "goal", "k")


class TestTooMany(Checks):
    def test_exactly_where_more_than_600_lots_come(self):
        for goal in GOALS:
            for call, rest in ((least_cost, []), (cheapest_tree, []), (dear_paper, [0]), (dear_paper, [100])):
                self.assertEqual(self.check_raises(TooMany, call, RULES_OF_601, LOT_OF_601, goal, *rest).limit, 600)
            cost = least_cost(RULES_OF_600, LOT_OF_600, goal)
            tree = cheapest_tree(RULES_OF_600, LOT_OF_600, goal)
            self.assertEqual(cost_of(RULES_OF_600, LOT_OF_600, goal, tree), cost)
            for k in (0, 7, 100):
                paper = dear_paper(RULES_OF_600, LOT_OF_600, goal, k)
                self.assertIs(paper is None, cost is not None and cost <= k)
                self.assertIs(paper is None or is_dear(RULES_OF_600, LOT_OF_600, goal, k, paper), True)

    def test_also_if_the_lot_reaches_the_goal(self):
        self.assertIs(words.reaches(LOT_OF_601, ("rule",)), True)
        search = (RULES_OF_600, LOT_OF_600, ("rule",))
        self.assertEqual([least_cost(*search), cheapest_tree(*search), dear_paper(*search, 0)], [0, (), None])
        for call, rest in ((least_cost, []), (cheapest_tree, []), (dear_paper, [0])):
            self.check_raises(TooMany, call, RULES_OF_601, LOT_OF_601, ("rule",), *rest)

    def test_the_arguments_are_looked_at_first(self):
        self.check_raises(NoNumber, dear_paper, RULES_OF_601, LOT_OF_601, ("rule",), 101)
        for call in (least_cost, cheapest_tree):
            self.check_raises(NoGoal, call, RULES_OF_601, LOT_OF_601, ("rules",))
            self.check_raises(NoLot, call, RULES_OF_601, LOT_OF_601[::-1], ("rule",))

    def test_not_from_cost_of_and_is_dear(self):
        self.assertEqual(cost_of(RULES_OF_601, LOT_OF_601, ("rule",), ()), 0)
        self.assertIsNone(cost_of(RULES_OF_601, LOT_OF_601, ("case",), ()))
        answers = sorted(words.lots_behind(RULES_OF_601, LOT_OF_601, 0))
        tree = (0, tuple([(answer, ()) for answer in answers]))
        self.assertEqual(cost_of(RULES_OF_601, LOT_OF_601, ("rule",), tree), 1 + answers[-1])
        self.assertIs(is_dear(RULES_OF_601, LOT_OF_601, ("case",), 0, [(0, LOT_OF_601)]), True)
        self.assertIs(is_dear(RULES_OF_601, LOT_OF_601, ("case",), 9, [(9, LOT_OF_601)]), False)
        self.assertIs(is_dear(RULES_OF_601, LOT_OF_601, ("rule",), 0, [(0, LOT_OF_601)]), False)


class TestIsDear(Checks):
    lot, goal = first_lot(THREE), ("sorted", (2, 0, 1))

    def judged(self, value, k=4):
        """What is_dear tells of the value; the words tell the same."""
        told = is_dear(THREE, self.lot, self.goal, k, value)
        self.assertIs(told, words.is_dear(THREE, self.lot, self.goal, k, value))
        return told

    def test_in_any_order_and_with_entries_twice(self):
        paper = dear_paper(THREE, self.lot, self.goal, 4)
        self.assertGreater(len(paper), 2)
        for value in (paper, paper[::-1], paper[1:] + paper[:1], paper + paper, paper[:1] + paper[::-1]):
            self.assertIs(self.judged(value), True)

    def test_entries_that_are_not_needed(self):
        paper = dear_paper(THREE, self.lot, self.goal, 4)
        lots = [one for one in words.coming(THREE, self.lot) if not words.reaches(one, self.goal)]
        self.assertIs(self.judged(paper + [(0, one) for one in lots]), True)
        every = [(left, one) for left in range(4) for one in lots]
        right = [(left, one) for left, one in every if not words.reached_for(THREE, one, self.goal, left, {})]
        self.assertIs(self.judged(paper + right), True)
        for entry in every:
            self.assertIs(self.judged(paper + right + [entry]), entry in right)

    def test_a_left_that_is_greater_than_k(self):
        entries = [(left, ONE) for left in range(9)]
        self.assertIs(is_dear((STILL,), ONE, TURNED, 1, entries), True)
        # The item at place 1 may be asked for, too: what is left then is two less.
        self.assertIs(is_dear((STILL,), ONE, TURNED, 8, entries[:1] + entries[2:]), False)
        self.assertIs(is_dear((STILL,), ONE, TURNED, 1, [(9, ONE)] + entries[:2]), False)
        self.assertIs(is_dear((STILL,), ONE, TURNED, 0, [(10 ** 19999, ONE), (0, ONE)]), False)
        lefts = [10 ** 40 + number for number in range(4)] + list(range(30))
        self.assertIs(is_dear((STILL,), ONE, TURNED, 5, [(left, ONE) for left in lefts]), False)
        self.assertIs(is_dear((STILL,), ONE, TURNED, 100, [(left, ONE) for left in range(5000)]), True)

    def test_an_answer_that_takes_more_than_is_left(self):
        rules, lot = (named_rule(4, "still"),), ((0, ((0, 1, 2, 3), (0,) * 4)),)
        goal = ("sorted", (3, 2, 1, 0))
        for left in range(8):
            needed = sorted({left - depth - 1 for depth in range(4)} | {left})
            paper = [(number, lot) for number in needed if number >= 0]
            self.assertIs(is_dear(rules, lot, goal, left, paper), words.is_dear(rules, lot, goal, left, paper))
            self.assertIs(is_dear(rules, lot, goal, left, [(number, lot) for number in range(left + 1)]), True)
        # With nothing left no entry is needed, with one left just the one for the item at the front.
        self.assertIs(is_dear(rules, lot, goal, 0, [(0, lot)]), True)
        self.assertIs(is_dear(rules, lot, goal, 1, [(1, lot)]), False)
        self.assertIs(is_dear(rules, lot, goal, 1, [(1, lot), (0, lot)]), True)
        self.assertIs(is_dear(rules, lot, goal, 2, [(2, lot), (0, lot)]), False)
        self.assertIs(is_dear(rules, lot, goal, 2, [(2, lot), (1, lot), (0, lot)]), True)

    def test_entries_left_out_put_in_and_bent(self):
        told = [self.judged(value) for value in near_paper(dear_paper(THREE, self.lot, self.goal, 4)[:3])]
        paper = dear_paper((STILL,), STAYS, TURNED, 2)
        told += [is_dear((STILL,), STAYS, TURNED, 2, value) for value in near_paper(paper)]
        self.assertEqual(told[-len(near_paper(paper)):], [
            words.is_dear((STILL,), STAYS, TURNED, 2, value) for value in near_paper(paper)])
        self.assertGreater(told.count(True), 5)
        self.assertGreater(told.count(False), 100)

    def test_each_entry_left_out_of_drawn_papers(self):
        told = {True: 0, False: 0}
        for rules, lot, goal in drawn_searches()[::5]:
            for k in (2, 5):
                paper = dear_paper(rules, lot, goal, k) or []
                for index in range(len(paper)):
                    value = paper[:index] + paper[index + 1:]
                    told[is_dear(rules, lot, goal, k, value)] += 1
                    self.assertIs(is_dear(rules, lot, goal, k, value), words.is_dear(rules, lot, goal, k, value))
        self.assertGreater(told[False], 50)

    def test_lots_that_reach_the_goal(self):
        for k in (0, 1):
            paper = [(left, one) for left in (0, 1) for one in (STAYS, ONE, OTHER)]
            self.assertIs(is_dear((STILL,), STAYS, TURNED, k, paper), False)
            self.assertIs(is_dear((STILL,), STAYS, TURNED, k, paper[:2] + paper[3:5]), True)
            self.assertIs(is_dear((STILL,), OTHER, TURNED, k, [(0, OTHER), (1, OTHER)]), False)

    def test_a_hard_paper_is_no_dear_one(self):
        lot, goal = first_lot(THREE), ("sorted", (2, 0, 1))
        entries = [(left, one) for left in range(6) for one in words.coming(THREE, lot)]
        hard = [(left, one) for left, one in entries if not words.reached_within(THREE, one, goal, left, {})]
        dear = [(left, one) for left, one in entries if not words.reached_for(THREE, one, goal, left, {})]
        self.assertLess(len(hard), len(dear))
        self.assertIs(is_dear(THREE, lot, goal, 5, dear), True)
        self.assertIs(is_dear(THREE, lot, goal, 1, hard), words.is_dear(THREE, lot, goal, 1, hard))

    def test_other_kinds(self):
        paper = [(1, ONE), (0, ONE)]
        self.assertIs(is_dear((STILL,), ONE, TURNED, 1, paper), True)
        for number, value in enumerate(odd_values() + [nested(90, list), tuple(paper), ONE[0], (0,), (0, ONE, 0)]):
            with self.subTest(number=number):
                self.assertIs(is_dear((STILL,), ONE, TURNED, 1, value), False)
                self.assertIs(is_dear((STILL,), ONE, TURNED, 1, paper + [value]), False)
                self.assertIs(is_dear((STILL,), ONE, TURNED, 1, paper + [(value, ONE)]), False)
                self.assertIs(is_dear((STILL,), ONE, TURNED, 1, paper + [(0, value)]), False)
        for entry in ((True, ONE), (False, ONE), (-1, ONE), (0, list(ONE)), [0, ONE], (0, ((0, ((0, True), (0, 0))),)),
                      (0, OTHER), (0, STAYS[::-1]), (0, ()), (0, ((1, ((0, 1), (0, 0))),))):
            self.assertIs(is_dear((STILL,), ONE, TURNED, 1, paper + [entry]), False)
        self.assertIs(is_dear((STILL,), ONE, TURNED, 1, paper + [(0, STAYS)]), True)

    def test_wrong_arguments(self):
        self.check_arguments(is_dear, "rules", "lot", "goal", "k", "value")
        self.check_raises(NoRules, is_dear, (), LOT, ("order",), 101, None)


class TestNothingChanges(Checks):
    def test_nothing_that_is_passed_is_changed(self):
        dear = [(0, ONE), (1, ONE), (0, ONE)]
        self.assertTrue(unchanged_by(is_dear, (STILL,), ONE, TURNED, 1, dear))
        self.assertTrue(unchanged_by(is_dear, (STILL,), ONE, TURNED, 1, dear + [[0, [ONE]]]))
        for lot, goal in ((list(STAYS), TURNED), (STAYS, list(TURNED)), (STAYS, ("sorted", [1, 0])), (STAYS, TURNED)):
            self.assertTrue(unchanged_by(least_cost, (STILL,), lot, goal))
            self.assertTrue(unchanged_by(cheapest_tree, (STILL,), lot, goal))
            self.assertTrue(unchanged_by(dear_paper, (STILL,), lot, goal, 1))
            self.assertTrue(unchanged_by(is_dear, (STILL,), lot, goal, 1, dear))
            for value in ([0, [[0, []], [1, []]]], (0, ([0, []], (1, ()))), TREE):
                self.assertTrue(unchanged_by(cost_of, (STILL,), lot, goal, value))

    def test_equal_arguments_tell_the_same(self):
        for search in without_tree()[:20] + with_tree()[:20]:
            told = [strictly([least_cost(*search), cheapest_tree(*search), dear_paper(*search, 4)]) for _ in range(3)]
            self.assertEqual(len(set(told)), 1)
