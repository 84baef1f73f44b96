"""Points 2, 9, 10 and the end of 12, and selfsort/lots.py."""

from selfsort.lots import answers, are_rules, behind, coming, first_lot, fitting, is_lot
from selfsort.rules import named_rule
from selfsort.wrongs import NoAnswer, NoItem, NoLog, NoLot, NoRules, TooMany
from tests import words
from tests.borders import LOT_OF_600, LOT_OF_601, RULES_OF_600, RULES_OF_601
from tests.checks import ARGUMENTS, FRONT, LOT, RULES, SECOND, STILL, Checks
from tests.samples import Draw, near, nested, odd_values, strictly, unchanged_by

EXAMPLE = """
>>> from selfsort.rules import named_rule
>>> from selfsort.lots import answers, behind, coming, first_lot, fitting
>>> lot = first_lot((named_rule(2, 'front'),))
>>> [lot, answers((named_rule(2, 'front'),), lot, 0), behind((named_rule(2, 'front'),), lot, 0, 1)]
[((0, ((0, 1), (0, 0))), (0, ((1, 0), (0, 0)))), [0, 1], ((0, ((0, 1), (0, 0))),)]
>>> [fitting((named_rule(2, 'front'),), lot, ((1, 1), (1, 0))), len(coming((named_rule(2, 'front'),), lot))]
[[(0, ((0, 1), (0, 0)))], 3]
"""
MANY = (named_rule(4, "second"),)


def drawn_lots(start, many):
    """Drawn tuples (rules, lot), of lots with few and with many cases."""
    draw = Draw(start)
    found = []
    for number in range(many):
        items = 2 + number % 3
        rules = draw.rules(items, 1 + draw.below(3))
        cases = words.every_case(rules)
        found.append((rules, tuple(sorted(draw.some(cases, draw.one([1, 2, 3, 5, 12, 48]))))))
    return found


class TestExamples(Checks):
    def test_the_example_of_the_interface(self):
        self.check_examples(EXAMPLE)

    def test_arguments_may_be_passed_by_name(self):
        self.assertIs(are_rules(value=RULES), True)
        self.assertIs(is_lot(rules=RULES, value=LOT), True)
        self.assertEqual(len(first_lot(rules=RULES)), 4)
        self.assertEqual(answers(rules=RULES, lot=LOT, item=0), [0, 1])
        self.assertEqual(behind(rules=RULES, lot=LOT[:1], item=1, value=1), ((0, ((1, 0), (0, 0))),))
        self.assertEqual(fitting(rules=RULES, lot=LOT, log=()), list(LOT))
        self.assertEqual(len(coming(rules=RULES, lot=LOT[2:])), 1)


class TestAreRules(Checks):
    def test_one_to_three_rules(self):
        self.assertEqual([are_rules((SECOND,) * many) for many in range(6)], [False, True, True, True, False, False])
        self.assertEqual([are_rules((SECOND, STILL, FRONT)), are_rules((FRONT, SECOND))], [True, True])
        self.assertIs(are_rules((SECOND, STILL, FRONT, FRONT)), False)

    def test_rules_of_unlike_numbers_of_items(self):
        three, four = named_rule(3, "still"), named_rule(4, "still")
        for value in ((STILL, three), (three, STILL), (STILL, STILL, four), (four, three, four)):
            self.assertIs(are_rules(value), False)
        self.assertEqual([are_rules((three, named_rule(3, "second"))), are_rules((four,) * 3)], [True, True])

    def test_a_list_of_rules(self):
        for value in ([SECOND], [STILL, SECOND], [list(SECOND)], (list(SECOND),), SECOND, [SECOND, (SECOND,)]):
            self.assertIs(are_rules(value), False)

    def test_values_near_rules(self):
        for rules in ((STILL,), RULES, (named_rule(3, "half"), named_rule(3, "front"))):
            for value in near(rules):
                self.assertIs(are_rules(value), words.are_rules(value), strictly(value))

    def test_odd_values(self):
        for index, value in enumerate(odd_values() + [nested(90, tuple), (0, 1), (None,)]):
            with self.subTest(index=index):
                self.assertIs(are_rules(value), False)
                self.assertIs(are_rules((STILL, value)), False)


class TestIsLot(Checks):
    def test_drawn_lots(self):
        for rules, lot in drawn_lots(91, 40):
            self.assertIs(is_lot(rules, lot), True)

    def test_not_ascending_and_a_case_twice(self):
        for value in (LOT[::-1], LOT[1:] + LOT[:1], LOT[:2] + LOT[1:], LOT + LOT, LOT[:1] * 2, (LOT[1], LOT[0])):
            self.assertIs(is_lot(RULES, value), False)
        self.assertEqual([is_lot(RULES, LOT[:many]) for many in range(4)], [False, True, True, True])

    def test_48_and_49_cases(self):
        cases = words.every_case(MANY)
        told = [is_lot(MANY, tuple(cases[:many])) for many in (47, 48, 49, 50, 384)]
        self.assertEqual(told, [True, True, False, False, False])
        self.assertEqual([is_lot(MANY, tuple(cases[-many:])) for many in (48, 49)], [True, False])

    def test_numbers_out_of_range(self):
        standing = ((0, 1), (0, 0))
        for many in (1, 2, 3):
            for number in range(-2, 5):
                self.assertIs(is_lot((STILL,) * many, ((number, standing),)), 0 <= number < many)
        self.assertIs(is_lot((STILL,), ((10 ** 19999, standing),)), False)

    def test_equal_rules_have_cases_of_their_own(self):
        standing = ((0, 1), (0, 0))
        self.assertIs(is_lot((STILL, STILL), ((0, standing), (1, standing))), True)

    def test_a_standing_of_another_one_of_the_rules(self):
        self.assertEqual([is_lot(RULES, ((number, ((0, 1), (0, 1))),)) for number in (0, 1)], [True, False])

    def test_values_near_lots(self):
        for rules, lot in [(RULES, LOT), (RULES[1:], ((0, ((1, 0), (0, 0))),))] + drawn_lots(92, 12):
            for value in near(lot[:4]):
                self.assertIs(is_lot(rules, value), words.is_lot(rules, value), strictly(value))

    def test_odd_values(self):
        for index, value in enumerate(odd_values() + [nested(90, tuple), list(LOT), LOT[0]]):
            with self.subTest(index=index):
                self.assertIs(is_lot(RULES, value), False)
                self.assertIs(is_lot(RULES, LOT + (value,)), False)
                self.assertIs(is_lot(RULES, ((value, LOT[0][1]),)), False)
                self.assertIs(is_lot(RULES, ((0, value),)), False)

    def test_wrong_arguments(self):
        self.check_arguments(is_lot, "rules", "value")


class TestFirstLot(Checks):
    def test_all_cases_with_all_flags_0(self):
        for rules in (RULES, (STILL,), (SECOND,) * 3, (named_rule(3, "half"),) * 3, (named_rule(4, "ahead"),) * 2):
            wanted = [case for case in words.every_case(rules) if not any(case[1][1])]
            self.assertEqual(strictly(first_lot(rules)), strictly(tuple(wanted)))
            self.assertIs(is_lot(rules, first_lot(rules)), True)

    def test_more_than_48_cases(self):
        rule = named_rule(4, "second")
        self.assertEqual([len(first_lot((rule,))), len(first_lot((rule, rule)))], [24, 48])
        self.assertEqual(self.check_raises(TooMany, first_lot, (rule, rule, rule)).limit, 48)
        self.assertEqual(self.check_raises(TooMany, first_lot, (named_rule(4, "still"), rule, rule)).limit, 48)

    def test_wrong_arguments(self):
        self.check_arguments(first_lot, "rules")


class TestAnswers(Checks):
    def test_by_the_words(self):
        for rules, lot in drawn_lots(93, 60):
            for item in range(rules[0][0]):
                wanted = list(words.lots_behind(rules, lot, item))
                self.assertEqual(strictly(answers(rules, lot, item)), strictly(wanted))

    def test_ascending_with_some_left_out(self):
        rules = (named_rule(4, "still"),)
        lot = ((0, ((0, 1, 2, 3), (0,) * 4)), (0, ((0, 2, 3, 1), (0,) * 4)), (0, ((3, 2, 0, 1), (0,) * 4)))
        self.assertEqual([answers(rules, lot, item) for item in range(4)], [[0, 2], [1, 3], [1, 2], [0, 2, 3]])

    def test_a_new_list_each_time(self):
        self.check_new_list(answers, RULES, LOT, 0)

    def test_wrong_arguments(self):
        self.check_arguments(answers, "rules", "lot", "item")
        self.check_raises(NoItem, answers, RULES, LOT, 2)


class TestBehind(Checks):
    def test_by_the_words(self):
        for rules, lot in drawn_lots(94, 60):
            for item in range(rules[0][0]):
                lots = words.lots_behind(rules, lot, item)
                for value in range(-1, 5):
                    if value in lots:
                        self.assertEqual(strictly(behind(rules, lot, item, value)), strictly(lots[value]))
                        self.assertIs(is_lot(rules, lots[value]), True)
                    else:
                        self.check_raises(NoAnswer, behind, rules, lot, item, value)

    def test_cases_that_turn_to_the_same_one_are_there_once(self):
        rules = (named_rule(3, "front"),)
        told = behind(rules, first_lot(rules), 2, 2)
        self.assertEqual(told, ((0, ((2, 0, 1), (0, 0, 0))), (0, ((2, 1, 0), (0, 0, 0)))))
        rule = (2, 2, (((0, 0), (0, 0)), ((1, 0), (1, 0))))
        lot = ((0, ((0, 1), (0, 0))), (0, ((0, 1), (0, 1))), (0, ((0, 1), (1, 1))))
        self.assertEqual(behind((rule,), lot, 1, 1), ((0, ((0, 1), (0, 0))), (0, ((0, 1), (1, 0)))))

    def test_the_rules_number_never_changes(self):
        lot = ((0, ((0, 1), (0, 0))), (1, ((0, 1), (0, 0))))
        self.assertEqual(behind((FRONT, FRONT), lot, 1, 1), ((0, ((1, 0), (0, 0))), (1, ((1, 0), (0, 0)))))
        self.assertEqual(behind((FRONT, STILL), lot, 1, 1), ((0, ((1, 0), (0, 0))), (1, ((0, 1), (0, 0)))))

    def test_the_standings_are_those_behind_the_ask_so_the_lot_may_be_in_another_order(self):
        lot = ((0, ((0, 1, 2), (0,) * 3)), (0, ((1, 0, 2), (0,) * 3)), (1, ((0, 1, 2), (0,) * 3)))
        rules = (named_rule(3, "front"), named_rule(3, "still"))
        wanted = ((0, ((2, 0, 1), (0,) * 3)), (0, ((2, 1, 0), (0,) * 3)), (1, ((0, 1, 2), (0,) * 3)))
        self.assertEqual(behind(rules, lot, 2, 2), wanted)

    def test_no_answer_keeps_the_very_value(self):
        for index, value in enumerate(odd_values() + [2, True, False, None, [1], [0], (1,), "1", 1 << 70]):
            with self.subTest(index=index):
                self.assertIs(self.check_raises(NoAnswer, behind, RULES, LOT, 0, value).answer, value)
        self.assertEqual(self.check_raises(NoAnswer, behind, RULES, LOT[:1], 0, 1).answer, 1)

    def test_wrong_arguments(self):
        def call(rules, lot, item):
            return behind(rules, lot, item, 1)
        self.check_arguments(call, "rules", "lot", "item")
        for value in (None, True, [1]):
            self.check_raises(NoRules, behind, None, LOT, 0, value)
            self.check_raises(NoLot, behind, RULES, None, 0, value)
            self.check_raises(NoItem, behind, RULES, LOT, None, value)


class TestFitting(Checks):
    def test_drawn_logs_by_the_words(self):
        draw = Draw(95)
        for rules, lot in drawn_lots(95, 60):
            asks = draw.asks(rules[0][0], draw.below(6))
            depths = [words.run(rules[number], standing, asks)[0] for number, standing in lot]
            told = draw.one(depths)
            if draw.below(4) == 0:
                told = list(draw.asks(rules[0][0], len(asks)))
            wanted = [case for case, own in zip(lot, depths) if own == told]
            self.assertEqual(strictly(fitting(rules, lot, tuple(zip(asks, told)))), strictly(wanted))

    def test_logs_that_fit_some_none_and_all(self):
        self.assertEqual(fitting(RULES, LOT, ((1, 1),)), [LOT[0], LOT[2]])
        self.assertEqual(fitting(RULES, LOT, ((1, 1), (1, 1))), [LOT[2]])
        self.assertEqual(fitting(RULES, LOT, ((1, 1), (1, 0))), [LOT[0]])
        self.assertEqual(fitting(RULES, LOT, ((1, 1), (0, 1), (0, 0))), [])
        self.assertEqual(fitting(RULES, LOT[::2], ((0, 0), (1, 1))), list(LOT[::2]))

    def test_the_empty_log_fits_all(self):
        for rules, lot in drawn_lots(96, 10):
            self.assertEqual(strictly(fitting(rules, lot, ())), strictly(list(lot)))

    def test_the_cases_are_told_as_they_stand_in_the_lot(self):
        rules = (named_rule(3, "front"),)
        self.assertEqual(fitting(rules, first_lot(rules), ((2, 2), (1, 2))), [(0, ((0, 1, 2), (0, 0, 0)))])

    def test_a_long_log(self):
        self.assertEqual(fitting((FRONT,), first_lot((FRONT,)), ((1, 1), (0, 1)) * 3000), [(0, ((0, 1), (0, 0)))])

    def test_values_near_logs(self):
        for log in (((1, 1), (1, 0)), ((0, 0),), ((1, 1), (0, 1), (0, 0))):
            for number, value in enumerate(near(log)):
                with self.subTest(number=number):
                    if words.is_log(2, value):
                        self.check_strictly(fitting(RULES, LOT, value), list)
                    else:
                        self.check_raises(NoLog, fitting, RULES, LOT, value)

    def test_no_logs(self):
        logs = [[], [(0, 0)], ((0, 2),), ((2, 0),), ((0, -1),), ((-1, 0),), ((0,),), ((0, 0, 0),), (0, 0), ([0, 0],)]
        for number, log in enumerate(logs + [((0, True),), ((False, 0),), ((0, None),), ((0, "0"),), ((0, 10 ** 99),)]):
            with self.subTest(number=number):
                self.check_raises(NoLog, fitting, RULES, LOT, log)
                self.check_raises(NoLog, fitting, RULES, LOT, ((1, 0), (1, 0)) + tuple(log) + ((),))

    def test_answers_up_to_the_number_of_items(self):
        for items in (2, 3, 4):
            rules = (named_rule(items, "still"),)
            for answer in range(items):
                fits = fitting(rules, first_lot(rules), ((0, answer),))
                self.assertEqual(len(fits), len(first_lot(rules)) // items)
            self.check_raises(NoLog, fitting, rules, first_lot(rules), ((0, items),))

    def test_a_new_list_each_time(self):
        self.check_new_list(fitting, RULES, LOT, ())
        self.check_new_list(fitting, RULES, LOT, ((1, 1), (0, 1), (0, 0)))

    def test_wrong_arguments(self):
        self.check_arguments(fitting, "rules", "lot", "log")


class TestComing(Checks):
    def test_drawn_lots_by_the_words(self):
        told = {True: 0, False: 0}
        for rules, lot in drawn_lots(97, 40):
            wanted = words.coming(rules, lot)
            told[wanted is None] += 1
            if wanted is None:
                self.assertEqual(self.check_raises(TooMany, coming, rules, lot).limit, 600)
            else:
                self.assertEqual(strictly(coming(rules, lot)), strictly(wanted))
        self.assertGreater(told[True], 3)
        self.assertGreater(told[False], 20)

    def test_the_lot_itself_comes_of_it(self):
        rules = (named_rule(3, "front"),)
        self.assertIn(first_lot(rules), coming(rules, first_lot(rules)))
        self.assertEqual(coming((STILL,), ((0, ((0, 1), (0, 0))),)), [((0, ((0, 1), (0, 0))),)])

    def test_too_many_exactly_where_more_than_600_come(self):
        draw, sizes = Draw(98), {}
        for _ in range(40):
            rules = draw.rules(4, 1)
            lot = tuple(sorted(draw.some(words.every_case(rules), 2 + draw.below(3))))
            wanted = words.coming(rules, lot)
            if wanted is None:
                self.check_raises(TooMany, coming, rules, lot)
            else:
                self.assertEqual(len(coming(rules, lot)), len(wanted))
                sizes[len(wanted)] = True
        self.assertGreater(max(sizes), 400)

    def test_600_and_601_lots(self):
        self.assertEqual(len(words.coming(RULES_OF_600, LOT_OF_600, 1000)), 600)
        self.assertEqual(coming(RULES_OF_600, LOT_OF_600), words.coming(RULES_OF_600, LOT_OF_600))
        self.assertEqual(len(words.coming(RULES_OF_601, LOT_OF_601, 1000)), 601)
        self.assertEqual(self.check_raises(TooMany, coming, RULES_OF_601, LOT_OF_601).limit, 600)

    def test_a_new_list_each_time(self):
        self.check_new_list(coming, RULES, LOT)

    def test_wrong_arguments(self):
        self.check_arguments(coming, "rules", "lot")


class TestNothingChanges(Checks):
    def test_nothing_that_is_passed_is_changed(self):
        listed = [[0, [[0, 1], [0, 1]]], [1, [[0, 1], [0, 0]]]]
        for call in (answers, behind, fitting, coming, is_lot):
            rest = {answers: [[0]], behind: [0, [1]], fitting: [[[0, 1]]], coming: [], is_lot: []}[call]
            self.assertTrue(unchanged_by(call, RULES, LOT, *rest))
            self.assertTrue(unchanged_by(call, RULES, listed, *rest))
            self.assertTrue(unchanged_by(call, [SECOND, [STILL]], LOT, *rest))
        for call in (are_rules, first_lot):
            self.assertTrue(unchanged_by(call, [SECOND, [STILL]]))

    def test_equal_arguments_tell_the_same(self):
        for _ in range(3):
            self.assertEqual(answers(RULES, LOT, 0), [0, 1])
            self.check_raises(NoAnswer, behind, RULES, LOT, 0, 2)
            self.check_raises(NoLot, coming, RULES, LOT[::-1])
            self.assertEqual([is_lot(RULES, LOT), are_rules(RULES)], [True, True])
            self.assertEqual(ARGUMENTS["lot"][0], LOT)
