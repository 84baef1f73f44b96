"""Points 2 and 14, and selfsort/blind.py."""

from selfsort.blind import behind_blind, blind_paper, blind_row, is_blind_paper
from selfsort.lots import coming, first_lot
from selfsort.rules import named_rule
from selfsort.wrongs import NoGoal, NoItem, NoLot, TooMany
from tests import words
from tests.borders import LOT_OF_600_BLIND, LOT_OF_601_BLIND, RULES_OF_441_BLIND, RULES_OF_BLIND
from tests.checks import FRONT, LOT, RULES, SECOND, STILL, Checks
from tests.samples import Draw, near_paper, nested, odd_values, strictly, unchanged_by
from tests.searches import drawn_blind, drawn_searches, with_row, without_row

EXAMPLE = """
>>> from selfsort.rules import named_rule
>>> from selfsort.lots import first_lot
>>> from selfsort.blind import behind_blind, blind_paper, blind_row
>>> rules = (named_rule(3, 'front'),)
>>> [blind_row(rules, first_lot(rules), ('sorted', (2, 1, 0))), len(behind_blind(rules, first_lot(rules), 1))]
[(1, 2), 2]
>>> rules = (named_rule(2, 'still'),)
>>> [blind_row(rules, first_lot(rules), ('order',)), blind_paper(rules, first_lot(rules), ('order',)) == [first_lot(rules)]]
[None, True]
"""
BOTH = first_lot((STILL,))
ONE, OTHER = BOTH[:1], BOTH[1:]
GOALS = (("order",), ("case",), ("rule",), ("front", 3), ("sorted", (0, 2, 1, 3)))
AHEAD = (named_rule(3, "ahead"),)


class TestExamples(Checks):
    def test_the_example_of_the_interface(self):
        self.check_examples(EXAMPLE)

    def test_arguments_may_be_passed_by_name(self):
        self.assertEqual(behind_blind(rules=(STILL,), lot=BOTH, item=1), BOTH)
        self.assertEqual(blind_row(rules=(STILL,), lot=ONE, goal=("case",)), ())
        self.assertIsNone(blind_paper(rules=(STILL,), lot=ONE, goal=("case",)))
        self.assertIs(is_blind_paper(rules=(STILL,), lot=ONE, goal=("case",), value=[]), False)


class TestBehindBlind(Checks):
    def test_every_ask_by_the_words(self):
        for rules, lot, _ in drawn_searches():
            for item in range(rules[0][0]):
                told = behind_blind(rules, lot, item)
                self.assertEqual(strictly(told), strictly(words.lot_behind_blind(rules, lot, item)))

    def test_each_case_once_and_ascending(self):
        self.assertEqual(behind_blind((FRONT,), first_lot((FRONT,)), 1), ((0, ((1, 0), (0, 0))),))
        self.assertEqual(behind_blind((FRONT, FRONT), first_lot((FRONT, FRONT)), 0), (
            (0, ((0, 1), (0, 0))), (1, ((0, 1), (0, 0)))))
        rules = (named_rule(4, "front"),)
        self.assertEqual(len(behind_blind(rules, first_lot(rules), 2)), 6)
        lot = ((0, ((0, 1), (0, 0))), (0, ((0, 1), (0, 1))), (0, ((1, 0), (0, 1))))
        self.assertEqual(behind_blind((SECOND,), lot, 1), (
            (0, ((0, 1), (0, 1))), (0, ((1, 0), (0, 0)))))

    def test_whatever_the_depth_is(self):
        for rules, lot, _ in drawn_searches()[:60]:
            for item in range(rules[0][0]):
                cases = {case for part in words.lots_behind(rules, lot, item).values() for case in part}
                self.assertEqual(behind_blind(rules, lot, item), tuple(sorted(cases)))

    def test_lots_of_48_cases(self):
        draw = Draw(14)
        for _ in range(10):
            rules = draw.rules(4, 2)
            lot = tuple(sorted(draw.some(words.every_case(rules), 48)))
            self.assertEqual(behind_blind(rules, lot, 3), words.lot_behind_blind(rules, lot, 3))

    def test_not_too_many(self):
        self.assertEqual(behind_blind(RULES_OF_BLIND, LOT_OF_601_BLIND, 3), words.lot_behind_blind(
            RULES_OF_BLIND, LOT_OF_601_BLIND, 3))

    def test_wrong_arguments(self):
        self.check_arguments(behind_blind, "rules", "lot", "item")
        self.check_raises(NoItem, behind_blind, RULES, LOT, 2)


class TestBlindRow(Checks):
    def test_the_least_of_the_fewest_asks_by_the_words(self):
        for search in drawn_blind():
            self.assertEqual(strictly(blind_row(*search)), strictly(words.least_blind_row(*search)))
        lengths = {len(blind_row(*search)) for search in with_row()}
        self.assertLessEqual({0, 1, 2, 3, 4}, lengths)

    def test_empty_where_the_lot_reaches_the_goal(self):
        for rules, lot, goal in drawn_blind():
            self.assertIs(strictly(blind_row(rules, lot, goal)) == "tuple()", words.reaches(lot, goal))

    def test_to_sort_unseen_and_blind(self):
        rules = (named_rule(4, "front"),)
        self.assertEqual(blind_row(rules, first_lot(rules), ("sorted", (0, 1, 2, 3))), (2, 1, 0))
        self.assertEqual(blind_row(rules, first_lot(rules), ("order",)), (0, 1, 2))
        self.assertEqual(blind_row(rules, first_lot(rules), ("front", 3)), (3,))
        self.assertEqual(blind_row(AHEAD, first_lot(AHEAD), ("order",)), (0, 0, 1, 0))
        self.assertIsNone(blind_row((STILL,), BOTH, ("front", 1)))
        self.assertEqual(blind_row(AHEAD, first_lot(AHEAD), ("front", 2)), (2, 2))
        self.assertEqual(blind_row(AHEAD, first_lot(AHEAD)[:1], ("sorted", (2, 1, 0))), (1, 2, 2))

    def test_the_least_of_rows_that_lead_to_several_lots(self):
        rules = (named_rule(4, "still"), named_rule(4, "front"))
        lot = ((1, ((0, 1, 2, 3), (0,) * 4)), (1, ((0, 1, 3, 2), (0,) * 4)))
        self.assertEqual(blind_row(rules, lot, ("order",)), (2,))
        self.assertEqual(blind_row(rules, lot, ("front", 3)), (3,))

    def test_wrong_arguments(self):
        self.check_arguments(blind_row, "rules", "lot", "goal")


class TestBlindPaper(Checks):
    def test_none_exactly_where_there_is_a_row(self):
        for search in with_row():
            self.assertIsNone(blind_paper(*search))
        for search in without_row():
            self.assertIsNone(blind_row(*search))
            self.assertIsNotNone(blind_paper(*search))

    def test_just_the_lots_that_come_blind_ascending(self):
        for rules, lot, goal in without_row():
            paper = blind_paper(rules, lot, goal)
            self.assertEqual(strictly(paper), strictly(words.coming_blind(rules, lot)))
            self.assertIs(is_blind_paper(rules, lot, goal, paper), True)
            self.assertIs(words.is_blind_paper(rules, lot, goal, paper), True)

    def test_a_new_list_each_time(self):
        self.check_new_list(blind_paper, (STILL,), BOTH, ("order",))

    def test_wrong_arguments(self):
        self.check_arguments(blind_paper, "rules", "lot", "goal")


class TestTooMany(Checks):
    def test_just_600_and_just_601_lots_come_blind(self):
        self.assertEqual(len(words.coming_blind(RULES_OF_BLIND, LOT_OF_600_BLIND, 1000)), 600)
        self.assertEqual(len(words.coming_blind(RULES_OF_BLIND, LOT_OF_601_BLIND, 1000)), 601)
        # Of what is told few lots come: only those that come blind count.
        self.assertLess(len(coming(RULES_OF_BLIND, LOT_OF_601_BLIND)), 100)

    def test_exactly_where_more_than_600_lots_come_blind(self):
        for goal in GOALS:
            for call in (blind_row, blind_paper):
                self.assertEqual(self.check_raises(TooMany, call, RULES_OF_BLIND, LOT_OF_601_BLIND, goal).limit, 600)
            row = blind_row(RULES_OF_BLIND, LOT_OF_600_BLIND, goal)
            paper = blind_paper(RULES_OF_BLIND, LOT_OF_600_BLIND, goal)
            self.assertEqual(row, words.least_blind_row(RULES_OF_BLIND, LOT_OF_600_BLIND, goal))
            self.assertEqual(paper, None if row is not None else words.coming_blind(RULES_OF_BLIND, LOT_OF_600_BLIND))

    def test_also_if_the_lot_reaches_the_goal(self):
        self.assertIs(words.reaches(LOT_OF_601_BLIND, ("rule",)), True)
        self.check_raises(TooMany, blind_row, RULES_OF_BLIND, LOT_OF_601_BLIND, ("rule",))
        self.check_raises(TooMany, blind_paper, RULES_OF_BLIND, LOT_OF_601_BLIND, ("rule",))
        self.assertEqual(blind_row(RULES_OF_BLIND, LOT_OF_600_BLIND, ("rule",)), ())
        self.assertIsNone(blind_paper(RULES_OF_BLIND, LOT_OF_600_BLIND, ("rule",)))

    def test_drawn_lots(self):
        draw, told = Draw(141), {True: 0, False: 0}
        for _ in range(40):
            rules = draw.rules(4, 1 + draw.below(2))
            lot = tuple(sorted(draw.some(words.every_case(rules), 2 + draw.below(4))))
            wanted = words.coming_blind(rules, lot)
            told[wanted is None] += 1
            if wanted is None:
                self.check_raises(TooMany, blind_row, rules, lot, ("case",))
                self.check_raises(TooMany, blind_paper, rules, lot, ("case",))
            else:
                blind_row(rules, lot, ("case",))
                self.assertIn(blind_paper(rules, lot, ("case",)), [None, wanted])
        self.assertGreater(min(told.values()), 5)

    def test_more_than_600_lots_that_come_of_what_is_told_are_not_meant(self):
        rules, lot = RULES_OF_441_BLIND, first_lot(RULES_OF_441_BLIND)
        self.check_raises(TooMany, coming, rules, lot)
        self.assertEqual(len(words.coming_blind(rules, lot)), 441)
        for goal in GOALS:
            self.assertEqual(blind_row(rules, lot, goal), words.least_blind_row(rules, lot, goal))
        self.assertEqual(blind_paper(rules, lot, ("rule",)), words.coming_blind(rules, lot))

    def test_the_arguments_are_looked_at_first(self):
        for call in (blind_row, blind_paper):
            self.check_raises(NoGoal, call, RULES_OF_BLIND, LOT_OF_601_BLIND, ("front", 4))
            self.check_raises(NoLot, call, RULES_OF_BLIND, LOT_OF_601_BLIND[::-1], ("rule",))

    def test_not_from_is_blind_paper(self):
        self.assertIs(is_blind_paper(RULES_OF_BLIND, LOT_OF_601_BLIND, ("case",), [LOT_OF_601_BLIND]), False)
        paper = words.coming_blind(RULES_OF_BLIND, LOT_OF_601_BLIND, 1000)
        goal = ("front", 3)
        self.assertIs(is_blind_paper(RULES_OF_BLIND, LOT_OF_601_BLIND, goal, paper), words.is_blind_paper(
            RULES_OF_BLIND, LOT_OF_601_BLIND, goal, paper))


class TestIsBlindPaper(Checks):
    def test_in_any_order_and_with_entries_twice(self):
        for rules, lot, goal in without_row():
            paper = blind_paper(rules, lot, goal)
            for value in (paper, paper[::-1], paper[1:] + paper[:1], paper * 2, paper[:1] + paper):
                self.assertIs(is_blind_paper(rules, lot, goal, value), True)

    def test_entries_that_are_not_needed(self):
        self.assertIs(is_blind_paper((STILL,), ONE, ("sorted", (1, 0)), [ONE, BOTH]), True)
        self.assertIs(is_blind_paper((STILL,), ONE, ("sorted", (1, 0)), [ONE, OTHER]), False)
        for rules, lot, goal in without_row():
            for one in words.coming(rules, lot)[:20]:
                value = blind_paper(rules, lot, goal) + [one]
                self.assertIs(is_blind_paper(rules, lot, goal, value), words.is_blind_paper(rules, lot, goal, value))

    def test_entries_left_out(self):
        for rules, lot, goal in without_row():
            paper = blind_paper(rules, lot, goal)
            for index in range(len(paper)):
                # Each lot of this paper comes of the lot, so none of them can be left out.
                self.assertIs(is_blind_paper(rules, lot, goal, paper[:index] + paper[index + 1:]), False)

    def test_lots_behind_answers_are_not_enough(self):
        paper = words.coming(AHEAD, first_lot(AHEAD))
        paper = [one for one in paper if not words.reaches(one, ("order",))]
        self.assertIs(is_blind_paper(AHEAD, first_lot(AHEAD), ("order",), paper), words.is_blind_paper(
            AHEAD, first_lot(AHEAD), ("order",), paper))
        self.assertIs(is_blind_paper((STILL,), BOTH, ("order",), [ONE, OTHER]), False)
        self.assertIs(is_blind_paper((STILL,), BOTH, ("order",), [BOTH]), True)

    def test_with_one_that_reaches_the_goal(self):
        for rules, lot, goal in with_row():
            paper = words.coming_blind(rules, lot)
            self.assertIs(is_blind_paper(rules, lot, goal, paper), False)
            kept = [one for one in paper if not words.reaches(one, goal)]
            self.assertIs(is_blind_paper(rules, lot, goal, kept), False)
        self.assertIs(is_blind_paper((STILL,), BOTH, ("front", 1), [BOTH, OTHER]), False)
        self.assertIs(is_blind_paper((STILL,), BOTH, ("front", 1), [BOTH, ONE]), True)

    def test_entries_bent(self):
        told = []
        searches = [((STILL,), BOTH, ("order",)), (RULES, LOT, ("case",)), (RULES, LOT, ("sorted", (1, 0)))]
        for rules, lot, goal in searches + without_row()[:4]:
            for value in near_paper((blind_paper(rules, lot, goal) or [lot])[:3]):
                told.append(is_blind_paper(rules, lot, goal, value))
                self.assertIs(told[-1], words.is_blind_paper(rules, lot, goal, value))
        self.assertGreater(told.count(False), 100)
        self.assertGreater(told.count(True), 5)

    def test_other_kinds(self):
        goal = ("sorted", (1, 0))
        for number, value in enumerate(odd_values() + [nested(90, list), (ONE,), [(0, ONE)], [list(ONE)]]):
            with self.subTest(number=number):
                self.assertIs(is_blind_paper((STILL,), ONE, goal, value), False)
                self.assertIs(is_blind_paper((STILL,), ONE, goal, [ONE, value]), False)
                self.assertIs(is_blind_paper((STILL,), ONE, goal, [ONE, (value,)]), False)
        for entry in (((0, ((0, True), (0, 0))),), ((False, ((0, 1), (0, 0))),), ((1, ((0, 1), (0, 0))),), BOTH[::-1]):
            self.assertIs(is_blind_paper((STILL,), ONE, goal, [ONE, entry]), False)
            self.assertIs(is_blind_paper((STILL,), ONE, goal, [entry]), False)

    def test_wrong_arguments(self):
        self.check_arguments(is_blind_paper, "rules", "lot", "goal", "value")
        self.check_raises(NoLot, is_blind_paper, RULES, LOT[::-1], None, None)


class TestNothingChanges(Checks):
    def test_nothing_that_is_passed_is_changed(self):
        paper = [BOTH, ONE, BOTH]
        self.assertTrue(unchanged_by(is_blind_paper, (STILL,), BOTH, ("sorted", (1, 0)), paper))
        self.assertTrue(unchanged_by(is_blind_paper, (STILL,), BOTH, ("sorted", (1, 0)), paper + [[0, [ONE]]]))
        for lot, goal in ((list(BOTH), ("order",)), (BOTH, ["order"]), (BOTH, ("sorted", [1, 0])), (BOTH, ("order",))):
            self.assertTrue(unchanged_by(blind_row, (STILL,), lot, goal))
            self.assertTrue(unchanged_by(blind_paper, (STILL,), lot, goal))
            self.assertTrue(unchanged_by(behind_blind, (STILL,), lot, [0]))

    def test_equal_arguments_tell_the_same(self):
        for search in without_row()[:10] + with_row()[:10]:
            self.assertEqual(len({strictly([blind_row(*search), blind_paper(*search)]) for _ in range(3)}), 1)
