"""Points 2 and 8, and selfsort/parting.py."""

from itertools import product

from selfsort.parting import parted_by, parting_asks
from selfsort.rules import named_rule
from selfsort.wrongs import NoAsks, NoCase
from tests import words
from tests.checks import CASE, FRONT, RULES, SECOND, STANDING, STILL, Checks
from tests.samples import Draw, strictly, unchanged_by

EXAMPLE = """
>>> from selfsort.rules import named_rule
>>> from selfsort.parting import parted_by, parting_asks
>>> rules = (named_rule(2, 'front'), named_rule(2, 'still'))
>>> one, other = (0, ((0, 1), (0, 0))), (1, ((0, 1), (0, 0)))
>>> [parting_asks(rules, one, other), parting_asks(rules, one, one), parted_by(rules, one, other, (1,))]
[(1, 0), None, False]
"""
# No ask tells anything of the flags by this rule.
BLANK = (2, 2, (((0, 1), (0, 0)), ((0, 1), (0, 1))))


def drawn():
    """Drawn tuples (rules, one, other), of which many have the same order at first."""
    draw, found = Draw(8), []
    for number in range(80):
        rules = draw.rules(2 + number % 3, 1 + draw.below(3))
        cases = words.every_case(rules)
        one = draw.one(cases)
        others = [case for case in cases if case[1][0] == one[1][0]]
        found.append((rules, one, draw.one(others if draw.below(5) else cases)))
    return found


def parts(rules, one, other, asks):
    """Point 8, by the words."""
    return words.run(rules[one[0]], one[1], asks)[0] != words.run(rules[other[0]], other[1], asks)[0]


def least_by_trying(rules, one, other, most):
    """The least of the fewest asks that part the two cases, up to so many asks."""
    for many in range(most + 1):
        for asks in product(range(rules[0][0]), repeat=many):
            if parts(rules, one, other, asks):
                return asks
    return None


class TestExamples(Checks):
    def test_the_example_of_the_interface(self):
        self.check_examples(EXAMPLE)

    def test_arguments_may_be_passed_by_name(self):
        one, other = (0, ((0, 1), (0, 0))), (0, ((1, 0), (0, 0)))
        self.assertEqual(parting_asks(rules=RULES, one=one, other=other), (0,))
        self.assertIs(parted_by(rules=RULES, one=one, other=other, asks=(0,)), True)


class TestPartingAsks(Checks):
    def test_drawn_cases_by_trying_all_asks(self):
        lengths = {}
        for rules, one, other in drawn():
            told = parting_asks(rules, one, other)
            lengths[told and len(told)] = True
            if told is None:
                self.assertIs(words.same_for_ever(rules, one, other), True)
            elif len(told) <= 5:
                self.assertEqual(strictly(told), strictly(least_by_trying(rules, one, other, len(told))))
            else:
                self.assertIsNone(least_by_trying(rules, one, other, 5))
                self.assertIs(parts(rules, one, other, told), True)
        self.assertLessEqual({None, 1, 2, 3}, set(lengths))

    def test_either_way_round(self):
        for rules, one, other in drawn():
            self.assertEqual(parting_asks(rules, one, other), parting_asks(rules, other, one))

    def test_a_case_and_itself(self):
        for rules, one, _ in drawn():
            self.assertIsNone(parting_asks(rules, one, one))

    def test_cases_that_no_asks_part(self):
        self.assertIsNone(parting_asks((BLANK,), (0, ((0, 1), (0, 0))), (0, ((0, 1), (1, 1)))))
        self.assertIsNone(parting_asks((STILL, STILL), (0, ((0, 1), (0, 0))), (1, ((0, 1), (0, 0)))))
        self.assertIsNone(parting_asks((FRONT, BLANK), (0, ((0, 1), (0, 0))), (1, ((0, 1), (1, 0)))))

    def test_cases_of_one_rule(self):
        self.assertEqual(parting_asks((SECOND,), (0, ((0, 1), (0, 0))), (0, ((0, 1), (0, 1)))), (1, 0))
        self.assertEqual(parting_asks((SECOND,), (0, ((0, 1), (0, 0))), (0, ((0, 1), (1, 0)))), (1, 1, 0, 0))
        self.assertEqual(parting_asks((STILL,), (0, ((0, 1), (0, 0))), (0, ((1, 0), (0, 0)))), (0,))

    def test_cases_of_unlike_rules(self):
        rules = (named_rule(3, "front"), named_rule(3, "ahead"), named_rule(3, "still"))
        standing = ((1, 0, 2), (0, 0, 0))
        told = [parting_asks(rules, (one, standing), (other, standing)) for one in range(3) for other in range(3)]
        self.assertEqual(told, [None, (2, 1), (0, 0), (2, 1), None, (0, 0), (0, 0), (0, 0), None])

    def test_the_first_item_that_stands_elsewhere(self):
        rules = (named_rule(4, "still"),)
        one, other = (0, ((0, 1, 2, 3), (0,) * 4)), (0, ((0, 1, 3, 2), (0,) * 4))
        self.assertEqual(parting_asks(rules, one, other), (2,))

    def test_wrong_arguments(self):
        self.check_arguments(parting_asks, "rules", "one", "other")
        self.check_raises(NoCase, parting_asks, RULES, (1, STANDING), CASE)


class TestPartedBy(Checks):
    def test_drawn_asks_by_the_words(self):
        draw, told = Draw(88), {True: 0, False: 0}
        for rules, one, other in drawn():
            for many in (1, 2, 3, 6):
                asks = draw.asks(rules[0][0], many)
                wanted = parts(rules, one, other, asks)
                self.assertIs(parted_by(rules, one, other, asks), wanted)
                self.assertIs(parted_by(rules, other, one, asks), wanted)
                told[wanted] += 1
        self.assertGreater(min(told.values()), 20)

    def test_what_parts_and_what_does_not(self):
        for rules, one, other in drawn():
            asks = parting_asks(rules, one, other)
            if asks is not None:
                self.assertIs(parted_by(rules, one, other, asks), True)
                self.assertIs(parted_by(rules, one, other, asks + (0,)), True)
                self.assertIs(parted_by(rules, one, other, asks[:-1]), False)

    def test_no_asks_part_nothing(self):
        for rules, one, other in drawn():
            self.assertIs(parted_by(rules, one, other, ()), False)

    def test_a_depth_that_is_the_same_again_does_not_join_them(self):
        one, other = (0, ((0, 1), (0, 0))), (0, ((1, 0), (0, 0)))
        self.assertIs(parted_by((FRONT,), one, other, (0, 0, 0, 1)), True)

    def test_wrong_arguments(self):
        self.check_arguments(parted_by, "rules", "one", "other", "asks")
        self.check_raises(NoAsks, parted_by, RULES, CASE, CASE, [0])


class TestNothingChanges(Checks):
    def test_nothing_that_is_passed_is_changed(self):
        listed = [0, [[1, 0], [0, 1]]]
        for call, rest in ((parting_asks, []), (parted_by, [[0, 1]])):
            self.assertTrue(unchanged_by(call, RULES, CASE, CASE, *rest))
            self.assertTrue(unchanged_by(call, RULES, listed, CASE, *rest))
            self.assertTrue(unchanged_by(call, RULES, CASE, listed, *rest))
            self.assertTrue(unchanged_by(call, [SECOND, [STILL]], CASE, CASE, *rest))

    def test_equal_arguments_tell_the_same(self):
        for _ in range(3):
            self.assertEqual(parting_asks((SECOND,), (0, ((0, 1), (0, 0))), (0, ((0, 1), (0, 1)))), (1, 0))
            self.assertIs(parted_by(RULES, CASE, CASE, (0, 1)), False)
