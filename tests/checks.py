"""What several tests check in the same way, and right and wrong arguments for it."""

import doctest
import unittest

from selfsort import wrongs
from tests import words
from tests.samples import near, odd_values

FRONT = (2, 1, (((0, 0),), ((0, 0),)))
STILL = (2, 1, (((0, 0),), ((1, 0),)))
SECOND = (2, 2, (((0, 1), (0, 0)), ((1, 1), (0, 0))))
RULES = (SECOND, STILL)
STANDING = ((1, 0), (0, 1))
CASE = (0, STANDING)
LOT = ((0, ((0, 1), (0, 1))), (0, ((1, 0), (0, 1))), (1, ((0, 1), (0, 0))))


def wrong(values, is_right):
    """Those of the values, and of odd ones, that are not right."""
    return [value for value in odd_values() + values if not is_right(value)]


# For each name of an argument: a right value, wrong ones that stand behind right ones of the names
# before it, and the error of its kind. A rule has 2 items, and so have the rules.
ARGUMENTS = {
    "rule": (SECOND, wrong(near(SECOND), words.is_rule), wrongs.NoRule),
    "standing": (STANDING, wrong(near(STANDING), lambda value: words.is_standing(SECOND, value)), wrongs.NoStanding),
    "order": ((1, 0), wrong(near((1, 0)), lambda value: words.is_order(2, value)), wrongs.NoOrder),
    "item": (1, wrong(near(1), lambda value: words.is_integer(value, 0, 1)), wrongs.NoItem),
    "asks": ((1, 0, 1), wrong(near((1, 0, 1)), lambda value: words.are_asks(2, value)), wrongs.NoAsks),
    "rules": (RULES, wrong(near(RULES) + [RULES * 2], words.are_rules), wrongs.NoRules),
    "one": (CASE, wrong(near(CASE), lambda value: words.is_case(RULES, value)), wrongs.NoCase),
    "other": (CASE, wrong(near(CASE), lambda value: words.is_case(RULES, value)), wrongs.NoCase),
    "lot": (LOT, wrong(near(LOT), lambda value: words.is_lot(RULES, value)), wrongs.NoLot),
    "goal": (("sorted", (1, 0)), wrong(near(("sorted", (1, 0))), lambda value: words.is_goal(2, value)), wrongs.NoGoal),
    "log": (((1, 1), (1, 0)), wrong(near(((1, 1), (1, 0))), lambda value: words.is_log(2, value)), wrongs.NoLog),
    "k": (1, [-1, 101, True, False, None, "1", (1,), [1], 10 ** 19999, -(10 ** 19999), ()], wrongs.NoNumber),
    # Any value is right for an argument of this name, so it has no error.
    "value": (None, odd_values(), None),
}
# A case of rules is wrong of others, and so on: what is right by itself, but not of the rules before it.
ARGUMENTS["standing"][1].extend([((0, 1, 2), (0, 0, 0)), ((0, 1), (0, 2))])
ARGUMENTS["order"][1].extend([(0, 1, 2), (0, 1, 2, 3)])
ARGUMENTS["rules"][1].extend([(), (SECOND,) * 4, [SECOND], SECOND, (STILL, (3, 1, (((0, 0),),) * 3))])
ARGUMENTS["one"][1].extend([(2, STANDING), (-1, STANDING), (1, STANDING)])
ARGUMENTS["lot"][1].extend([(), LOT[::-1], LOT + LOT[-1:], LOT + ((2, ((0, 1), (0, 0))),)])
ARGUMENTS["goal"][1].extend([("front", 2), ("sorted", (0, 1, 2)), ("order", ()), ("other",), ("sorted",), ("rule", 0)])


class Checks(unittest.TestCase):
    """Checks for the tests of the stages."""

    def check_examples(self, text):
        """The examples tell what stands behind them."""
        examples = doctest.DocTestParser().get_doctest(text, {}, self.id(), None, None)
        self.assertTrue(examples.examples)
        told = []
        doctest.DocTestRunner(verbose=False).run(examples, out=told.append)
        self.assertEqual("".join(told), "")

    def check_strictly(self, value, kind):
        """The value has this kind, not only one under it or one that is equal."""
        self.assertIs(type(value), kind)

    def check_raises(self, error, call, *arguments):
        """The call raises just this error."""
        with self.assertRaises(wrongs.SortError) as caught:
            call(*arguments)
        self.assertIs(type(caught.exception), error)
        return caught.exception

    def check_arguments(self, call, *names):
        """Each wrong argument raises its error, with right and with wrong ones behind it; right ones raise none."""
        rights = [ARGUMENTS[name][0] for name in names]
        call(*rights)
        for index, name in enumerate(names):
            _, values, error = ARGUMENTS[name]
            for number, value in enumerate(values if error else []):
                with self.subTest(argument=name, number=number):
                    self.check_raises(error, call, *rights[:index], value, *rights[index + 1:])
                    behind = [ARGUMENTS[other][1][number % len(ARGUMENTS[other][1])] for other in names[index + 1:]]
                    self.check_raises(error, call, *rights[:index], value, *behind)

    def check_new_list(self, call, *arguments):
        """Each call tells a new list, and what is done to one leaves those told later as they are."""
        first, second = call(*arguments), call(*arguments)
        self.check_strictly(first, list)
        self.assertEqual(first, second)
        self.assertIsNot(first, second)
        first.append(None)
        self.assertEqual(call(*arguments), second)
