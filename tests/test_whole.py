"""Point 3: just one of a tree and an endless paper, with the fewest asks or the least cost, and papers for less."""

from selfsort.blind import blind_paper, blind_row, is_blind_paper
from selfsort.costs import cheapest_tree, cost_of, dear_paper, is_dear, least_cost
from selfsort.crowd import Crowd
from selfsort.lots import answers, behind, coming, fitting
from selfsort.papers import endless_paper, hard_paper, is_endless, is_hard
from selfsort.seeker import Seeker
from selfsort.standings import Store
from selfsort.sure import sure_pairs, sure_places
from selfsort.trees import best_tree, height_of, is_tree, least_asks
from selfsort.wrongs import TooMany
from tests import words
from tests.checks import Checks
from tests.samples import Draw
from tests.searches import drawn_blind, drawn_search, drawn_searches, with_row, with_tree, without_tree


def walked(rules, case, tree):
    """What a store tells that is asked as the tree says: the log, and the case in which the list is then."""
    number, standing = case
    store = Store(rules[number], standing)
    while tree != ():
        item, branches = tree
        tree = dict(branches)[store.ask(item)]
    return tuple(store.asked()), (number, store.standing())


class TestJustOne(Checks):
    def test_just_one_of_tree_and_endless_paper(self):
        for rules, lot, goal in drawn_searches():
            tree, paper = best_tree(rules, lot, goal), endless_paper(rules, lot, goal)
            self.assertEqual([tree is None, least_asks(rules, lot, goal) is None], [paper is not None] * 2)
            if tree is None:
                self.assertIs(is_endless(rules, lot, goal, paper), True)
            else:
                self.assertIs(is_tree(rules, lot, goal, tree), True)

    def test_a_hard_paper_for_one_ask_less(self):
        for rules, lot, goal in with_tree():
            height = least_asks(rules, lot, goal)
            if height > 0:
                paper = hard_paper(rules, lot, goal, height - 1)
                self.assertIs(is_hard(rules, lot, goal, height - 1, paper), True)
            self.assertIsNone(hard_paper(rules, lot, goal, height))

    def test_an_endless_paper_and_hard_papers_of_any_number_of_asks(self):
        for rules, lot, goal in without_tree():
            paper = endless_paper(rules, lot, goal)
            for k in (0, 3, 40):
                entries = [(left, one) for left in range(k + 1) for one in paper]
                self.assertIs(is_hard(rules, lot, goal, k, entries), True)
                self.assertIs(is_hard(rules, lot, goal, k, hard_paper(rules, lot, goal, k)), True)

    def test_or_more_than_600_lots_come(self):
        draw, many = Draw(33), 0
        for _ in range(60):
            rules, lot, goal = drawn_search(draw, 4)
            if words.coming(rules, lot) is None:
                many += 1
                self.check_raises(TooMany, coming, rules, lot)
                for call, rest in ((least_asks, []), (best_tree, []), (endless_paper, []), (hard_paper, [3]),
                                   (least_cost, []), (cheapest_tree, []), (dear_paper, [3])):
                    self.assertEqual(self.check_raises(TooMany, call, rules, lot, goal, *rest).limit, 600)
                self.assertIs(is_tree(rules, lot, goal, ()), words.reaches(lot, goal))
                self.assertIs(is_hard(rules, lot, goal, 0, [(0, lot)]), not words.reaches(lot, goal))
                self.assertIs(is_dear(rules, lot, goal, 0, [(0, lot)]), not words.reaches(lot, goal))
        self.assertGreater(many, 5)

    def test_a_tree_is_there_for_costs_exactly_if_it_is_for_asks(self):
        for search in drawn_searches():
            told = [least_asks(*search), best_tree(*search), least_cost(*search), cheapest_tree(*search)]
            self.assertEqual([one is None for one in told], [endless_paper(*search) is not None] * 4)

    def test_a_dear_paper_for_one_less(self):
        for search in with_tree():
            cost = least_cost(*search)
            if cost > 0:
                self.assertIs(is_dear(*search, cost - 1, dear_paper(*search, cost - 1)), True)
            self.assertIsNone(dear_paper(*search, cost))

    def test_costs_lie_between_the_asks_and_four_times_as_many(self):
        for search in with_tree():
            asks, cost = least_asks(*search), least_cost(*search)
            self.assertLessEqual(asks, cost)
            self.assertLessEqual(cost, asks * search[0][0][0])

    def test_just_one_of_blind_row_and_blind_paper(self):
        for search in drawn_blind():
            row, paper = blind_row(*search), blind_paper(*search)
            self.assertIs(row is None, paper is not None)
            self.assertIs(paper is None or is_blind_paper(*search, paper), True)

    def test_a_blind_row_is_no_shorter_than_a_tree_is_high(self):
        for search in with_row():
            self.assertLessEqual(least_asks(*search), len(blind_row(*search)))


class TestWalks(Checks):
    def test_a_tree_reaches_the_goal_whatever_case_it_is(self):
        for rules, lot, goal in with_tree():
            height, tree = least_asks(rules, lot, goal), best_tree(rules, lot, goal)
            self.assertEqual(height_of(rules, lot, goal, tree), height)
            lengths = []
            for case in lot:
                log, now = walked(rules, case, tree)
                one = lot
                for item, answer in log:
                    self.assertIn(answer, answers(rules, one, item))
                    one = behind(rules, one, item, answer)
                self.assertIn(now, one)
                self.assertIn(case, fitting(rules, lot, log))
                self.assertIs(words.reaches(one, goal), True)
                lengths.append(len(log))
            self.assertEqual(max(lengths), height)

    def test_an_endless_paper_answers_for_ever(self):
        draw = Draw(34)
        for rules, lot, goal in without_tree():
            paper, one = endless_paper(rules, lot, goal), lot
            for item in draw.asks(rules[0][0], 30):
                lots = [behind(rules, one, item, answer) for answer in answers(rules, one, item)]
                one = [part for part in lots if part in paper][0]
                self.assertIs(words.reaches(one, goal), False)

    def test_a_cheapest_tree_costs_no_more_than_is_told(self):
        for rules, lot, goal in with_tree():
            tree, costs = cheapest_tree(rules, lot, goal), []
            for case in lot:
                log, now = walked(rules, case, tree)
                costs.append(sum([depth + 1 for _, depth in log]))
                self.assertIs(words.reaches((now,), goal), True)
            # Some case pays just what is told, and none pays more.
            self.assertEqual(max(costs), least_cost(rules, lot, goal))
            self.assertEqual(max(costs), cost_of(rules, lot, goal, tree))

    def test_a_blind_row_brings_each_case_to_the_goal(self):
        for rules, lot, goal in with_row():
            row, turned = blind_row(rules, lot, goal), []
            for number, standing in lot:
                store = Store(rules[number], standing)
                for item in row:
                    store.ask(item)
                turned.append((number, store.standing()))
            self.assertIs(words.reaches(tuple(sorted(set(turned))), goal), True)

    def test_what_is_sure_holds_of_each_case_of_each_lot(self):
        for rules, lot, _ in drawn_searches()[::4]:
            for one in coming(rules, lot)[:20]:
                for _, (order, _) in one:
                    for item, other in sure_pairs(rules, one):
                        self.assertLess(order.index(item), order.index(other))
                    for item, place in enumerate(sure_places(rules, one)):
                        self.assertIn(place, (None, order.index(item)))


class TestSeekers(Checks):
    def test_the_case_in_which_the_list_is_now_is_in_each_lot(self):
        draw, refused = Draw(35), 0
        for rules, lot, _ in drawn_searches():
            number, standing = draw.one(lot)
            store, seeker, crowd = Store(rules[number], standing), Seeker(rules, lot), Crowd(rules, lot, 3)
            for item in draw.asks(rules[0][0], 8):
                depth, heard = store.ask(item), draw.below(4)
                seeker.told(item, depth)
                try:
                    if heard == 3:
                        crowd.called(item)
                    else:
                        crowd.told(heard, item, depth)
                except TooMany:
                    # A lot of the crowd would be too great, and as it was not told, it has lost the list from here on.
                    refused += 1
                    break
                now = (number, store.standing())
                for one in (seeker.lot(), crowd.lot(0), crowd.lot(1), crowd.lot(2), crowd.shared()):
                    self.assertIn(now, one)
                # Who hears all the answers knows no less than who hears some of them.
                self.assertLessEqual(set(seeker.lot()), set(crowd.shared()))
        self.assertLess(refused, len(drawn_searches()) // 2)
