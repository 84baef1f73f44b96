"""Points 2 and 16, and selfsort/sure.py."""

from selfsort.lots import behind, first_lot
from selfsort.rules import named_rule
from selfsort.sure import sure_pairs, sure_places
from selfsort.wrongs import NoLot, NoRules
from tests import words
from tests.borders import LOT_OF_601, RULES_OF_601
from tests.checks import LOT, RULES, STILL, Checks
from tests.samples import Draw, strictly, unchanged_by
from tests.searches import drawn_searches

EXAMPLE = """
>>> from selfsort.rules import named_rule
>>> from selfsort.lots import behind, first_lot
>>> from selfsort.sure import sure_pairs, sure_places
>>> rules = (named_rule(3, 'front'),)
>>> lot = behind(rules, first_lot(rules), 1, 2)
>>> [sure_pairs(rules, lot), sure_places(rules, lot)]
[[(1, 0), (1, 2)], [None, 0, None]]
"""
FLAT = (0, 0, 0, 0)
FOUR = (named_rule(4, "still"), named_rule(4, "second"))


class TestExamples(Checks):
    def test_the_example_of_the_interface(self):
        self.check_examples(EXAMPLE)

    def test_arguments_may_be_passed_by_name(self):
        self.assertEqual(sure_pairs(rules=(STILL,), lot=((0, ((1, 0), (0, 0))),)), [(1, 0)])
        self.assertEqual(sure_places(rules=(STILL,), lot=((0, ((1, 0), (0, 0))),)), [1, 0])


class TestSure(Checks):
    def test_drawn_lots_by_the_words(self):
        for rules, lot, _ in drawn_searches():
            self.assertEqual(strictly(sure_pairs(rules, lot)), strictly(words.sure_pairs(rules, lot)))
            self.assertEqual(strictly(sure_places(rules, lot)), strictly(words.sure_places(rules, lot)))

    def test_lots_of_one_case(self):
        lot = ((0, ((2, 0, 3, 1), FLAT)),)
        self.assertEqual(sure_pairs(FOUR, lot), [(0, 1), (0, 3), (2, 0), (2, 1), (2, 3), (3, 1)])
        self.assertEqual(sure_places(FOUR, lot), [1, 3, 0, 2])

    def test_lots_of_several_cases_with_one_order(self):
        lot = ((0, ((2, 0, 3, 1), FLAT)), (1, ((2, 0, 3, 1), FLAT)), (1, ((2, 0, 3, 1), (0, 1, 0, 1))))
        self.assertEqual(sure_pairs(FOUR, lot), sure_pairs(FOUR, lot[:1]))
        self.assertEqual(sure_places(FOUR, lot), [1, 3, 0, 2])

    def test_lots_of_several_orders(self):
        lot = ((0, ((0, 1, 2, 3), FLAT)), (0, ((0, 1, 3, 2), FLAT)), (1, ((1, 0, 2, 3), FLAT)))
        self.assertEqual(sure_pairs(FOUR, lot[:2]), [(0, 1), (0, 2), (0, 3), (1, 2), (1, 3)])
        self.assertEqual(sure_places(FOUR, lot[:2]), [0, 1, None, None])
        self.assertEqual(sure_pairs(FOUR, lot), [(0, 2), (0, 3), (1, 2), (1, 3)])
        self.assertEqual(sure_places(FOUR, lot), [None] * 4)
        self.assertEqual(sure_places(FOUR, lot[::2]), [None, None, 2, 3])

    def test_a_sure_place_without_all_its_pairs_and_the_other_way_round(self):
        lot = ((0, ((0, 2, 1, 3), FLAT)), (0, ((1, 2, 0, 3), FLAT)))
        self.assertEqual([sure_places(FOUR, lot), sure_pairs(FOUR, lot)], [
            [None, None, 1, 3], [(0, 3), (1, 3), (2, 3)]])
        lot = ((0, ((0, 1, 2, 3), FLAT)), (0, ((3, 0, 1, 2), FLAT)))
        self.assertEqual([sure_places(FOUR, lot), sure_pairs(FOUR, lot)], [
            [None] * 4, [(0, 1), (0, 2), (1, 2)]])

    def test_nothing_is_sure_of_all_orders(self):
        for items in (2, 3, 4):
            rules = (named_rule(items, "front"),)
            self.assertEqual([sure_pairs(rules, first_lot(rules)), sure_places(rules, first_lot(rules))], [
                [], [None] * items])

    def test_an_ask_makes_sure_where_the_item_went(self):
        rules = (named_rule(4, "front"),)
        lot = behind(rules, behind(rules, first_lot(rules), 2, 3), 0, 3)
        self.assertEqual(sure_places(rules, lot), [0, None, 1, None])
        self.assertEqual(sure_pairs(rules, lot), [(0, 1), (0, 2), (0, 3), (2, 1), (2, 3)])

    def test_a_part_of_a_lot_has_no_fewer_sure_pairs(self):
        draw = Draw(16)
        for rules, lot, _ in drawn_searches():
            part = tuple(sorted(draw.some(lot, 1 + draw.below(len(lot)))))
            self.assertLessEqual(set(sure_pairs(rules, lot)), set(sure_pairs(rules, part)))
            for own, told in zip(sure_places(rules, lot), sure_places(rules, part)):
                self.assertTrue(own is None or own == told)

    def test_not_too_many(self):
        self.assertEqual(sure_pairs(RULES_OF_601, LOT_OF_601), words.sure_pairs(RULES_OF_601, LOT_OF_601))
        self.assertEqual(sure_places(RULES_OF_601, LOT_OF_601), words.sure_places(RULES_OF_601, LOT_OF_601))

    def test_new_lists_each_time(self):
        lot = ((0, ((2, 0, 3, 1), FLAT)),)
        self.check_new_list(sure_pairs, FOUR, lot)
        self.check_new_list(sure_places, FOUR, lot)

    def test_wrong_arguments(self):
        self.check_arguments(sure_pairs, "rules", "lot")
        self.check_arguments(sure_places, "rules", "lot")
        for call in (sure_pairs, sure_places):
            self.check_raises(NoRules, call, None, None)
            self.check_raises(NoLot, call, RULES, LOT[::-1])

    def test_nothing_that_is_passed_is_changed(self):
        for call in (sure_pairs, sure_places):
            self.assertTrue(unchanged_by(call, RULES, LOT))
            self.assertTrue(unchanged_by(call, list(RULES), LOT))
            self.assertTrue(unchanged_by(call, RULES, [list(case) for case in LOT]))

    def test_equal_arguments_tell_the_same(self):
        for _ in range(3):
            self.assertEqual([sure_pairs(RULES, LOT[:1]), sure_places(RULES, LOT)], [[(0, 1)], [None, None]])
