"""Points 2 and 19, and selfsort/twins.py."""

from selfsort.parting import parting_asks
from selfsort.rules import named_rule
from selfsort.standings import all_standings, ask
from selfsort.twins import are_twins, twins
from selfsort.wrongs import NoRule, NoStanding
from tests import words
from tests.checks import ARGUMENTS, FRONT, SECOND, STANDING, STILL, Checks
from tests.samples import Draw, strictly, unchanged_by

EXAMPLE = """
>>> from selfsort.rules import named_rule
>>> from selfsort.twins import are_twins, twins
>>> rule = named_rule(2, 'front')
>>> [len(twins(named_rule(2, 'front'))), len(twins(named_rule(2, 'second'))), are_twins(rule, ((0, 1), (0, 0)), ((1, 0), (0, 0)))]
[2, 8, False]
"""
# No ask tells anything of the flags by this rule.
BLANK = (2, 2, (((0, 1), (0, 0)), ((0, 1), (0, 1))))
# By this one some twins differ in their flags, but not all standings of one order are twins.
LATE = (3, 2, (((0, 0), (0, 1)), ((1, 0), (1, 1)), ((2, 0), (1, 1))))


def some_rules():
    """Rules with one and with two flags, with many twins and with none."""
    draw = Draw(19)
    rules = [named_rule(items, name) for items in (2, 3) for name in ("front", "ahead", "still", "half", "second")]
    return rules + [BLANK, LATE] + [draw.rule(2 + number % 2, 2) for number in range(30)]


class TestExamples(Checks):
    def test_the_example_of_the_interface(self):
        self.check_examples(EXAMPLE)

    def test_arguments_may_be_passed_by_name(self):
        self.assertEqual(twins(rule=STILL), [[((0, 1), (0, 0))], [((1, 0), (0, 0))]])
        self.assertIs(are_twins(rule=SECOND, standing=STANDING, other=STANDING), True)


class TestTwins(Checks):
    def test_by_the_words(self):
        together = 0
        for rule in some_rules():
            told = twins(rule)
            self.assertEqual(strictly(told), strictly(words.twins(rule)))
            together += any(len(row) > 1 for row in told)
        self.assertGreater(together, 5)

    def test_each_standing_is_in_just_one_list(self):
        draw = Draw(190)
        for rule in some_rules() + [named_rule(4, "second")] + [draw.rule(4, 2) for _ in range(8)]:
            told = twins(rule)
            self.assertEqual(sorted([one for row in told for one in row]), all_standings(rule))
            self.assertEqual(told, sorted([sorted(row) for row in told]))
            self.assertNotIn([], told)

    def test_of_one_flag_each_is_alone(self):
        for items in (2, 3, 4):
            for name in ("front", "ahead", "still", "half"):
                rule = named_rule(items, name)
                self.assertEqual(twins(rule), [[one] for one in all_standings(rule)])

    def test_flags_that_no_ask_tells(self):
        self.assertEqual(twins(BLANK), [
            [((0, 1), (0, 0)), ((0, 1), (0, 1)), ((0, 1), (1, 0)), ((0, 1), (1, 1))],
            [((1, 0), (0, 0)), ((1, 0), (0, 1)), ((1, 0), (1, 0)), ((1, 0), (1, 1))],
        ])

    def test_the_named_rule_with_two_flags(self):
        self.assertEqual([len(twins(named_rule(items, "second"))) for items in (2, 3, 4)], [8, 48, 384])

    def test_new_lists_each_time(self):
        self.check_new_list(twins, BLANK)
        told = twins(BLANK)
        told[0].append(None)
        told[1].clear()
        self.assertEqual(twins(BLANK), words.twins(BLANK))

    def test_wrong_arguments(self):
        self.check_arguments(twins, "rule")


class TestAreTwins(Checks):
    def test_it_agrees_with_the_lists(self):
        for rule in some_rules():
            numbers = {one: number for number, row in enumerate(twins(rule)) for one in row}
            for one in numbers:
                for other in numbers:
                    self.assertIs(are_twins(rule, one, other), numbers[one] == numbers[other])

    def test_it_agrees_with_the_lists_of_four_items(self):
        draw = Draw(191)
        for rule in [draw.rule(4, 2) for _ in range(8)]:
            for row, next_row in zip(twins(rule), twins(rule)[1:]):
                one, other, third = draw.one(row), draw.one(row), draw.one(next_row)
                self.assertIs(are_twins(rule, one, other), True)
                self.assertIs(are_twins(rule, one, third), False)

    def test_no_asks_part_twins(self):
        for rule in some_rules():
            for row in twins(rule):
                self.assertIsNone(parting_asks((rule,), (0, row[0]), (0, row[-1])))
            for row, other in zip(twins(rule), twins(rule)[1:]):
                self.assertIsNotNone(parting_asks((rule,), (0, row[0]), (0, other[0])))

    def test_twins_stay_twins_behind_any_ask(self):
        for rule in some_rules():
            for row in twins(rule):
                for item in range(rule[0]):
                    behind = [ask(rule, one, item) for one in row]
                    self.assertEqual(len({depth for depth, _ in behind}), 1)
                    for _, turned in behind:
                        self.assertIs(are_twins(rule, behind[0][1], turned), True)

    def test_each_one_is_its_own_twin(self):
        for rule in some_rules():
            for one in all_standings(rule):
                self.assertIs(are_twins(rule, one, one), True)

    def test_wrong_arguments(self):
        self.check_arguments(lambda rule, standing: are_twins(rule, standing, STANDING), "rule", "standing")

    def test_wrong_others(self):
        for number, value in enumerate(ARGUMENTS["standing"][1]):
            with self.subTest(number=number):
                self.check_raises(NoStanding, are_twins, SECOND, STANDING, value)
                self.check_raises(NoStanding, are_twins, SECOND, value, value)
                self.check_raises(NoRule, are_twins, None, STANDING, value)
        self.check_raises(NoStanding, are_twins, FRONT, ((0, 1), (0, 0)), STANDING)


class TestNothingChanges(Checks):
    def test_nothing_that_is_passed_is_changed(self):
        for rule in (SECOND, list(SECOND), [2, 1, [[[0, 0]], [[0, 0]]]]):
            self.assertTrue(unchanged_by(twins, rule))
            self.assertTrue(unchanged_by(are_twins, rule, STANDING, [[0, 1], [0, 0]]))
            self.assertTrue(unchanged_by(are_twins, rule, [[0, 1], [0, 0]], STANDING))

    def test_equal_arguments_tell_the_same(self):
        for _ in range(3):
            self.assertEqual(len(twins(LATE)), len(words.twins(LATE)))
            self.assertIs(are_twins(BLANK, ((0, 1), (0, 0)), ((0, 1), (1, 1))), True)
