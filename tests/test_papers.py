"""Points 2 and 13, and selfsort/papers.py."""

from selfsort.lots import first_lot
from selfsort.papers import endless_paper, hard_paper, is_endless, is_hard
from selfsort.rules import named_rule
from selfsort.trees import least_asks
from selfsort.wrongs import NoGoal, NoLot, NoNumber, NoRules, TooMany
from tests import words
from tests.borders import LOT_OF_600, LOT_OF_601, RULES_OF_600, RULES_OF_601
from tests.checks import FRONT, LOT, RULES, STILL, Checks
from tests.samples import near_paper, nested, odd_values, strictly, unchanged_by
from tests.searches import drawn_searches, with_tree, without_tree

EXAMPLE = """
>>> from selfsort.rules import named_rule
>>> from selfsort.lots import first_lot
>>> from selfsort.papers import endless_paper, hard_paper, is_endless, is_hard
>>> rules = (named_rule(2, 'still'),)
>>> lot = first_lot(rules)
>>> [is_hard(rules, lot, ('order',), 0, [(0, lot)]), hard_paper(rules, lot, ('order',), 1), endless_paper(rules, lot, ('order',))]
[True, None, None]
>>> alone = lot[:1]
>>> [is_endless(rules, alone, ('sorted', (1, 0)), [alone]), is_hard(rules, alone, ('sorted', (1, 0)), 1, [(1, alone), (0, alone)])]
[True, True]
"""
NO_NUMBERS = [-1, 101, True, False, None, "1", (1,), [1], (), 10 ** 19999, -(10 ** 19999)]
BOTH = first_lot((STILL,))
ONE, OTHER = BOTH[:1], BOTH[1:]
# The goal that one of both orders never reaches by the rule "still".
TURNED = ("sorted", (1, 0))
THREE = (named_rule(3, "front"),)


class TestExamples(Checks):
    def test_the_example_of_the_interface(self):
        self.check_examples(EXAMPLE)

    def test_arguments_may_be_passed_by_name(self):
        self.assertIsNone(hard_paper(rules=RULES, lot=LOT[:1], goal=("case",), k=0))
        self.assertIs(is_hard(rules=RULES, lot=LOT[:1], goal=("case",), k=0, value=[]), False)
        self.assertIsNone(endless_paper(rules=RULES, lot=LOT[:1], goal=("case",)))
        self.assertIs(is_endless(rules=RULES, lot=LOT[:1], goal=("case",), value=[]), False)


class TestHardPaper(Checks):
    def test_exactly_where_no_tree_is_as_low(self):
        for rules, lot, goal in drawn_searches():
            height = least_asks(rules, lot, goal)
            for k in range(7):
                paper = hard_paper(rules, lot, goal, k)
                self.assertIs(paper is None, height is not None and height <= k)
                self.assertIs(paper is None, words.reached_within(rules, lot, goal, k, {}))
                if paper is not None:
                    self.assertIs(is_hard(rules, lot, goal, k, paper), True)
                    self.assertIs(words.is_hard(rules, lot, goal, k, paper), True)

    def test_0_and_100(self):
        for rules, lot, goal in drawn_searches():
            paper = hard_paper(rules, lot, goal, 0)
            self.assertEqual(paper, None if words.reaches(lot, goal) else [(0, lot)])
        for rules, lot, goal in without_tree():
            paper = hard_paper(rules, lot, goal, 100)
            self.assertIs(is_hard(rules, lot, goal, 100, paper), True)
            self.assertIs(is_hard(rules, lot, goal, 99, paper), (99, lot) in paper)
        for rules, lot, goal in with_tree():
            self.assertIsNone(hard_paper(rules, lot, goal, 100))

    def test_it_is_judged_only_by_its_own_k(self):
        lot, goal = first_lot(THREE), ("sorted", (2, 0, 1))
        paper = hard_paper(THREE, lot, goal, 1)
        self.assertEqual([is_hard(THREE, lot, goal, k, paper) for k in (0, 1, 2, 100)], [False, True, False, False])

    def test_no_number(self):
        for k in NO_NUMBERS:
            self.check_raises(NoNumber, hard_paper, RULES, LOT, ("case",), k)
            self.check_raises(NoNumber, is_hard, RULES, LOT, ("case",), k, [])
        self.assertEqual([hard_paper(RULES, LOT[:1], ("case",), k) for k in (0, 1, 99, 100)], [None] * 4)

    def test_a_new_list_each_time(self):
        self.check_new_list(hard_paper, (STILL,), ONE, TURNED, 3)

    def test_wrong_arguments(self):
        self.check_arguments(hard_paper, "rules", "lot", "goal", "k")


class TestTooMany(Checks):
    def test_exactly_where_more_than_600_lots_come(self):
        for goal in (("order",), ("case",), ("rule",), ("front", 3), ("sorted", (0, 2, 1, 3))):
            self.assertEqual(self.check_raises(TooMany, endless_paper, RULES_OF_601, LOT_OF_601, goal).limit, 600)
            self.assertIs(endless_paper(RULES_OF_600, LOT_OF_600, goal) is None,
                          least_asks(RULES_OF_600, LOT_OF_600, goal) is not None)
            for k in (0, 7, 100):
                self.assertEqual(
                    self.check_raises(TooMany, hard_paper, RULES_OF_601, LOT_OF_601, goal, k).limit, 600)
                paper = hard_paper(RULES_OF_600, LOT_OF_600, goal, k)
                self.assertIs(paper is None or is_hard(RULES_OF_600, LOT_OF_600, goal, k, paper), True)

    def test_also_if_the_lot_reaches_the_goal(self):
        self.assertIs(words.reaches(LOT_OF_601, ("rule",)), True)
        self.check_raises(TooMany, hard_paper, RULES_OF_601, LOT_OF_601, ("rule",), 0)
        self.check_raises(TooMany, endless_paper, RULES_OF_601, LOT_OF_601, ("rule",))
        self.assertIsNone(hard_paper(RULES_OF_600, LOT_OF_600, ("rule",), 0))
        self.assertIsNone(endless_paper(RULES_OF_600, LOT_OF_600, ("rule",)))

    def test_the_arguments_are_looked_at_first(self):
        self.check_raises(NoNumber, hard_paper, RULES_OF_601, LOT_OF_601, ("rule",), 101)
        self.check_raises(NoGoal, endless_paper, RULES_OF_601, LOT_OF_601, ("rules",))

    def test_not_from_is_hard_and_is_endless(self):
        self.assertIs(is_hard(RULES_OF_601, LOT_OF_601, ("case",), 0, [(0, LOT_OF_601)]), True)
        self.assertIs(is_hard(RULES_OF_601, LOT_OF_601, ("case",), 1, [(1, LOT_OF_601)]), False)
        self.assertIs(is_hard(RULES_OF_601, LOT_OF_601, ("rule",), 0, [(0, LOT_OF_601)]), False)
        self.assertIs(is_endless(RULES_OF_601, LOT_OF_601, ("case",), [LOT_OF_601]), False)


class TestEndlessPaper(Checks):
    def test_exactly_where_there_is_no_tree(self):
        for rules, lot, goal in with_tree():
            self.assertIsNone(endless_paper(rules, lot, goal))
        for rules, lot, goal in without_tree():
            paper = endless_paper(rules, lot, goal)
            self.assertIs(is_endless(rules, lot, goal, paper), True)
            self.assertIs(words.is_endless(rules, lot, goal, paper), True)

    def test_a_new_list_each_time(self):
        self.check_new_list(endless_paper, (STILL,), ONE, TURNED)

    def test_wrong_arguments(self):
        self.check_arguments(endless_paper, "rules", "lot", "goal")


class TestIsHard(Checks):
    lot, goal = first_lot(THREE), ("sorted", (2, 0, 1))

    def judged(self, value, k=1):
        """What is_hard tells of the value; the words tell the same."""
        told = is_hard(THREE, self.lot, self.goal, k, value)
        self.assertIs(told, words.is_hard(THREE, self.lot, self.goal, k, value))
        return told

    def test_in_any_order_and_with_entries_twice(self):
        paper = hard_paper(THREE, self.lot, self.goal, 1)
        self.assertGreater(len(paper), 2)
        for value in (paper, paper[::-1], paper[1:] + paper[:1], paper + paper, paper[:1] + paper[::-1]):
            self.assertIs(self.judged(value), True)

    def test_entries_that_are_not_needed(self):
        paper = hard_paper(THREE, self.lot, self.goal, 1)
        lots = [one for one in words.coming(THREE, self.lot) if not words.reaches(one, self.goal)]
        self.assertIs(self.judged(paper + [(0, one) for one in lots]), True)
        for one in lots:
            found = words.reached_within(THREE, one, self.goal, 1, {})
            self.assertIs(self.judged(paper + [(0, other) for other in lots] + [(1, one)]), not found)

    def test_lots_that_do_not_come_of_the_lot(self):
        alone = ((0, ((0, 2, 1), (0, 0, 0))),)
        self.assertIs(self.judged(hard_paper(THREE, self.lot, self.goal, 1) + [(0, alone)]), True)
        self.assertIs(self.judged(hard_paper(THREE, self.lot, self.goal, 1) + [(1, alone)]), False)

    def test_a_left_that_is_greater_than_k(self):
        self.assertIs(is_hard((STILL,), ONE, TURNED, 1, [(left, ONE) for left in range(9)]), True)
        self.assertIs(is_hard((STILL,), ONE, TURNED, 1, [(9, ONE), (1, ONE), (0, ONE)]), False)
        self.assertIs(is_hard((STILL,), ONE, TURNED, 0, [(10 ** 19999, ONE), (0, ONE)]), False)
        lefts = [10 ** 40 + number for number in range(4)] + list(range(30))
        self.assertIs(is_hard((STILL,), ONE, TURNED, 5, [(left, ONE) for left in lefts]), False)
        self.assertIs(is_hard((STILL,), ONE, TURNED, 100, [(left, ONE) for left in range(5000)]), True)

    def test_entries_left_out_put_in_and_bent(self):
        told = [self.judged(value) for value in near_paper(hard_paper(THREE, self.lot, self.goal, 1)[:3])]
        told += [is_hard((STILL,), BOTH, TURNED, 2, value) is words.is_hard((STILL,), BOTH, TURNED, 2, value)
                 for value in near_paper(hard_paper((STILL,), BOTH, TURNED, 2))]
        self.assertGreater(told.count(True), 100)
        self.assertGreater(told.count(False), 100)

    def test_each_entry_of_a_paper_without_more_is_needed(self):
        for rules, lot, goal in drawn_searches()[::5]:
            paper = hard_paper(rules, lot, goal, 2) or []
            for index in range(len(paper)):
                value = paper[:index] + paper[index + 1:]
                self.assertIs(is_hard(rules, lot, goal, 2, value), words.is_hard(rules, lot, goal, 2, value))

    def test_lots_that_reach_the_goal(self):
        for k in (0, 1):
            paper = [(left, one) for left in (0, 1) for one in (BOTH, ONE, OTHER)]
            self.assertIs(is_hard((STILL,), BOTH, TURNED, k, paper), False)
            self.assertIs(is_hard((STILL,), BOTH, TURNED, k, paper[:2] + paper[3:5]), True)
            self.assertIs(is_hard((STILL,), OTHER, TURNED, k, [(0, OTHER), (1, OTHER)]), False)
        self.assertIs(is_hard((STILL,), BOTH, TURNED, 0, [(0, BOTH), (0, OTHER)]), False)

    def test_an_answer_is_enough_but_for_each_item(self):
        rules = (named_rule(2, "second"),)
        lot = ((0, ((0, 1), (0, 0))), (0, ((0, 1), (0, 1))))
        for entries in ([], [0], [1], [0, 1]):
            paper = [(1, lot)]
            paper += [(0, part) for item in entries for part in words.lots_behind(rules, lot, item).values()]
            self.assertIs(is_hard(rules, lot, ("case",), 1, paper), words.is_hard(rules, lot, ("case",), 1, paper))
            self.assertIs(is_hard(rules, lot, ("case",), 1, paper), entries == [0, 1])

    def test_other_kinds(self):
        paper = [(1, ONE), (0, ONE)]
        for number, value in enumerate(odd_values() + [nested(90, list), tuple(paper), ONE[0], (0,), (0, ONE, 0)]):
            with self.subTest(number=number):
                self.assertIs(is_hard((STILL,), ONE, TURNED, 1, value), False)
                self.assertIs(is_hard((STILL,), ONE, TURNED, 1, paper + [value]), False)
                self.assertIs(is_hard((STILL,), ONE, TURNED, 1, paper + [(value, ONE)]), False)
                self.assertIs(is_hard((STILL,), ONE, TURNED, 1, paper + [(0, value)]), False)
        for entry in ((True, ONE), (False, ONE), (-1, ONE), (0, list(ONE)), [0, ONE], (0, ((0, ((0, True), (0, 0))),)),
                      (0, OTHER), (0, BOTH[::-1]), (0, ()), (0, ((1, ((0, 1), (0, 0))),))):
            self.assertIs(is_hard((STILL,), ONE, TURNED, 1, paper + [entry]), False)
        self.assertIs(is_hard((STILL,), ONE, TURNED, 1, paper + [(0, BOTH)]), True)

    def test_wrong_arguments(self):
        self.check_arguments(is_hard, "rules", "lot", "goal", "k", "value")
        self.check_raises(NoRules, is_hard, (), LOT, ("order",), 101, None)


class TestIsEndless(Checks):
    def test_in_any_order_with_entries_twice_and_ones_that_are_not_needed(self):
        for rules, lot, goal in without_tree():
            paper = endless_paper(rules, lot, goal)
            more = sorted(words.lots_without_tree(rules, lot, goal))
            for value in (paper[::-1], paper * 2, paper + more, more, more[::-1] + paper[:1]):
                self.assertIs(is_endless(rules, lot, goal, value), True)

    def test_entries_left_out(self):
        for rules, lot, goal in without_tree():
            paper = endless_paper(rules, lot, goal)
            for index in range(len(paper)):
                value = paper[:index] + paper[index + 1:]
                self.assertIs(is_endless(rules, lot, goal, value), words.is_endless(rules, lot, goal, value))

    def test_lots_put_in(self):
        for rules, lot, goal in without_tree():
            paper = endless_paper(rules, lot, goal)
            for one in words.coming(rules, lot)[:20]:
                value = paper + [one]
                self.assertIs(is_endless(rules, lot, goal, value), words.is_endless(rules, lot, goal, value))

    def test_no_paper_where_there_is_a_tree(self):
        for rules, lot, goal in with_tree():
            lots = [one for one in words.coming(rules, lot) if not words.reaches(one, goal)]
            self.assertIs(is_endless(rules, lot, goal, lots), False)
            self.assertIs(is_endless(rules, lot, goal, [lot]), False)

    def test_entries_bent(self):
        told = []
        for rules, lot, goal in ((RULES, LOT, ("sorted", (1, 0))), ((STILL,), BOTH, TURNED), (RULES, LOT, ("case",))):
            paper = endless_paper(rules, lot, goal) or [lot]
            for value in near_paper(paper):
                told.append(is_endless(rules, lot, goal, value))
                self.assertIs(told[-1], words.is_endless(rules, lot, goal, value))
        self.assertGreater(told.count(False), 100)
        self.assertGreater(told.count(True), 5)

    def test_a_lot_that_reaches_the_goal(self):
        self.assertIs(is_endless((STILL,), BOTH, TURNED, [BOTH, ONE]), True)
        self.assertIs(is_endless((STILL,), BOTH, TURNED, [BOTH, ONE, OTHER]), False)
        self.assertIs(is_endless((STILL,), BOTH, TURNED, [BOTH, OTHER]), False)
        self.assertIs(is_endless((STILL,), OTHER, TURNED, [OTHER]), False)

    def test_other_kinds(self):
        for number, value in enumerate(odd_values() + [nested(90, list), (ONE,), [(0, ONE)], [list(ONE)]]):
            with self.subTest(number=number):
                self.assertIs(is_endless((STILL,), ONE, TURNED, value), False)
                self.assertIs(is_endless((STILL,), ONE, TURNED, [ONE, value]), False)
                self.assertIs(is_endless((STILL,), ONE, TURNED, [ONE, (value,)]), False)
        for entry in (((0, ((0, True), (0, 0))),), ((False, ((0, 1), (0, 0))),), ((1, ((0, 1), (0, 0))),), BOTH[::-1]):
            self.assertIs(is_endless((STILL,), ONE, TURNED, [ONE, entry]), False)
            self.assertIs(is_endless((STILL,), ONE, TURNED, [entry]), False)

    def test_wrong_arguments(self):
        self.check_arguments(is_endless, "rules", "lot", "goal", "value")
        self.check_raises(NoLot, is_endless, RULES, LOT[::-1], None, None)


class TestNothingChanges(Checks):
    def test_nothing_that_is_passed_is_changed(self):
        hard, endless = [(0, ONE), (1, ONE), (0, ONE)], [BOTH, ONE, BOTH]
        self.assertTrue(unchanged_by(is_hard, (STILL,), ONE, TURNED, 1, hard))
        self.assertTrue(unchanged_by(is_hard, (STILL,), ONE, TURNED, 1, hard + [[0, [ONE]]]))
        self.assertTrue(unchanged_by(is_endless, (STILL,), BOTH, TURNED, endless))
        self.assertTrue(unchanged_by(is_endless, (STILL,), BOTH, TURNED, endless + [[0, [ONE]]]))
        for lot, goal in ((list(BOTH), TURNED), (BOTH, list(TURNED)), (BOTH, ("sorted", [1, 0]))):
            self.assertTrue(unchanged_by(hard_paper, (STILL,), lot, goal, 1))
            self.assertTrue(unchanged_by(is_hard, (STILL,), lot, goal, 1, hard))
            self.assertTrue(unchanged_by(endless_paper, (STILL,), lot, goal))
            self.assertTrue(unchanged_by(is_endless, (STILL,), lot, goal, endless))

    def test_equal_arguments_tell_the_same(self):
        for rules, lot, goal in without_tree()[:20]:
            papers = {strictly(hard_paper(rules, lot, goal, 4)) for _ in range(3)}
            papers |= {strictly(endless_paper(rules, lot, goal)) for _ in range(3)}
            self.assertEqual(len(papers), 2)
        self.assertIsNone(endless_paper((FRONT,), first_lot((FRONT,)), ("case",)))
