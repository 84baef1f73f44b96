"""Point 3: just one of a tree and an endless paper, with the fewest asks at worst and a hard paper for fewer."""

from selfsort.lots import answers, behind, coming, fitting
from selfsort.papers import endless_paper, hard_paper, is_endless, is_hard
from selfsort.standings import Store
from selfsort.trees import best_tree, height_of, is_tree, least_asks
from selfsort.wrongs import TooMany
from tests import words
from tests.checks import Checks
from tests.samples import Draw
from tests.searches import drawn_search, drawn_searches, with_tree, without_tree


def walked(rules, case, tree):
    """What a store tells that is asked as the tree says: the log, and the case in which the list is then."""
    number, standing = case
    store = Store(rules[number], standing)
    while tree != ():
        item, branches = tree
        tree = dict(branches)[store.ask(item)]
    return tuple(store.asked()), (number, store.standing())


class TestJustOne(Checks):
    def test_just_one_of_tree_and_endless_paper(self):
        for rules, lot, goal in drawn_searches():
            tree, paper = best_tree(rules, lot, goal), endless_paper(rules, lot, goal)
            self.assertEqual([tree is None, least_asks(rules, lot, goal) is None], [paper is not None] * 2)
            if tree is None:
                self.assertIs(is_endless(rules, lot, goal, paper), True)
            else:
                self.assertIs(is_tree(rules, lot, goal, tree), True)

    def test_a_hard_paper_for_one_ask_less(self):
        for rules, lot, goal in with_tree():
            height = least_asks(rules, lot, goal)
            if height > 0:
                paper = hard_paper(rules, lot, goal, height - 1)
                self.assertIs(is_hard(rules, lot, goal, height - 1, paper), True)
            self.assertIsNone(hard_paper(rules, lot, goal, height))

    def test_an_endless_paper_and_hard_papers_of_any_number_of_asks(self):
        for rules, lot, goal in without_tree():
            paper = endless_paper(rules, lot, goal)
            for k in (0, 3, 40):
                entries = [(left, one) for left in range(k + 1) for one in paper]
                self.assertIs(is_hard(rules, lot, goal, k, entries), True)
                self.assertIs(is_hard(rules, lot, goal, k, hard_paper(rules, lot, goal, k)), True)

    def test_or_more_than_600_lots_come(self):
        draw, many = Draw(33), 0
        for _ in range(60):
            rules, lot, goal = drawn_search(draw, 4)
            if words.coming(rules, lot) is None:
                many += 1
                self.check_raises(TooMany, coming, rules, lot)
                for call, rest in ((least_asks, []), (best_tree, []), (endless_paper, []), (hard_paper, [3])):
                    self.assertEqual(self.check_raises(TooMany, call, rules, lot, goal, *rest).limit, 600)
                self.assertIs(is_tree(rules, lot, goal, ()), words.reaches(lot, goal))
                self.assertIs(is_hard(rules, lot, goal, 0, [(0, lot)]), not words.reaches(lot, goal))
        self.assertGreater(many, 5)


class TestWalks(Checks):
    def test_a_tree_reaches_the_goal_whatever_case_it_is(self):
        for rules, lot, goal in with_tree():
            height, tree = least_asks(rules, lot, goal), best_tree(rules, lot, goal)
            self.assertEqual(height_of(rules, lot, goal, tree), height)
            lengths = []
            for case in lot:
                log, now = walked(rules, case, tree)
                one = lot
                for item, answer in log:
                    self.assertIn(answer, answers(rules, one, item))
                    one = behind(rules, one, item, answer)
                self.assertIn(now, one)
                self.assertIn(case, fitting(rules, lot, log))
                self.assertIs(words.reaches(one, goal), True)
                lengths.append(len(log))
            self.assertEqual(max(lengths), height)

    def test_an_endless_paper_answers_for_ever(self):
        draw = Draw(34)
        for rules, lot, goal in without_tree():
            paper, one = endless_paper(rules, lot, goal), lot
            for item in draw.asks(rules[0][0], 30):
                lots = [behind(rules, one, item, answer) for answer in answers(rules, one, item)]
                one = [part for part in lots if part in paper][0]
                self.assertIs(words.reaches(one, goal), False)
