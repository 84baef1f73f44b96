"""Points 2, 4, 5 and 7, and selfsort/ways.py."""

from itertools import product

from selfsort.rules import named_rule
from selfsort.standings import run
from selfsort.ways import is_no_way, least_way, no_way, reached
from selfsort.wrongs import NoOrder
from tests import words
from tests.checks import SECOND, STANDING, STILL, Checks
from tests.samples import Draw, near_paper, nested, odd_values, strictly, unchanged_by

EXAMPLE = """
>>> from selfsort.rules import named_rule
>>> from selfsort.ways import is_no_way, least_way, no_way
>>> rule = named_rule(3, 'front')
>>> [least_way(rule, ((0, 1, 2), (0, 0, 0)), (2, 1, 0)), no_way(rule, ((0, 1, 2), (0, 0, 0)), (2, 1, 0))]
[(1, 2), None]
>>> still = named_rule(2, 'still')
>>> [least_way(still, ((0, 1), (0, 0)), (1, 0)), no_way(still, ((0, 1), (0, 0)), (1, 0)), is_no_way(still, ((0, 1), (0, 0)), (1, 0), [])]
[None, [((0, 1), (0, 0))], False]
"""
# Only the item at the last place moves, and only one place ahead: the front never changes.
LAST = (3, 1, (((0, 0),), ((1, 0),), ((1, 0),)))


def drawn():
    """Drawn tuples (rule, standing), of named and drawn rules."""
    draw = Draw(7)
    rules = [named_rule(items, name) for items in (2, 3) for name in ("front", "ahead", "still", "half", "second")]
    rules += [LAST] + [draw.rule(2 + number % 2, 1 + draw.below(2)) for number in range(30)] + [draw.rule(4, 1)] * 2
    return [(rule, draw.one(words.every_standing(rule))) for rule in rules]


def least_by_trying(rule, standing, order, most):
    """The least of the fewest asks behind which the order is there, up to so many asks."""
    for many in range(most + 1):
        for asks in product(range(rule[0]), repeat=many):
            if words.run(rule, standing, asks)[1][0] == order:
                return asks
    return None


class TestExamples(Checks):
    def test_the_example_of_the_interface(self):
        self.check_examples(EXAMPLE)

    def test_arguments_may_be_passed_by_name(self):
        self.assertEqual(reached(rule=STILL, standing=((0, 1), (0, 0))), [((0, 1), (0, 0))])
        self.assertEqual(least_way(rule=SECOND, standing=STANDING, order=(0, 1)), (0, 0))
        self.assertIsNone(no_way(rule=SECOND, standing=STANDING, order=(0, 1)))
        self.assertIs(is_no_way(rule=SECOND, standing=STANDING, order=(0, 1), value=[]), False)


class TestReached(Checks):
    def test_by_the_words(self):
        for rule, standing in drawn():
            self.assertEqual(strictly(reached(rule, standing)), strictly(words.reached(rule, standing)))

    def test_the_standing_itself_is_reached_by_no_ask(self):
        rule = (2, 2, (((0, 1), (0, 1)), ((1, 1), (1, 1))))
        self.assertEqual(reached(rule, ((0, 1), (0, 0))), [((0, 1), flags) for flags in product((0, 1), repeat=2)])

    def test_how_many_are_reached(self):
        self.assertEqual(len(reached(named_rule(4, "front"), ((3, 1, 0, 2), (0, 0, 0, 0)))), 24)
        self.assertEqual(len(reached(named_rule(4, "second"), ((3, 1, 0, 2), (0, 1, 0, 0)))), 384)
        self.assertEqual(len(reached(named_rule(4, "still"), ((3, 1, 0, 2), (0, 0, 0, 0)))), 1)
        self.assertEqual(reached(LAST, ((2, 0, 1), (0, 0, 0))), [((2, 0, 1), (0, 0, 0)), ((2, 1, 0), (0, 0, 0))])

    def test_a_new_list_each_time(self):
        self.check_new_list(reached, SECOND, STANDING)

    def test_wrong_arguments(self):
        self.check_arguments(reached, "rule", "standing")


class TestLeastWay(Checks):
    def test_drawn_ones_by_trying_all_asks(self):
        for rule, standing in drawn():
            for order in words.every_order(rule[0]):
                way = least_way(rule, standing, order)
                if way is None or len(way) > 6:
                    self.assertIsNone(least_by_trying(rule, standing, order, 4))
                else:
                    self.assertEqual(strictly(way), strictly(least_by_trying(rule, standing, order, len(way))))

    def test_there_is_none_just_where_the_order_is_not_reached(self):
        for rule, standing in drawn():
            orders = [one[0] for one in words.reached(rule, standing)]
            for order in words.every_order(rule[0]):
                way = least_way(rule, standing, order)
                self.assertEqual(way is None, order not in orders)
                self.assertEqual(no_way(rule, standing, order) is None, order in orders)
                if way is not None:
                    self.assertEqual(run(rule, standing, way)[1][0], order)

    def test_no_ask_where_the_order_is_there(self):
        for rule, standing in drawn():
            self.assertEqual(strictly(least_way(rule, standing, standing[0])), "tuple()")

    def test_whatever_the_flags_are(self):
        self.assertEqual(least_way(SECOND, ((0, 1), (0, 1)), (1, 0)), (1,))
        self.assertEqual(least_way(SECOND, ((0, 1), (1, 0)), (1, 0)), (1, 1))

    def test_of_several_the_least(self):
        self.assertEqual(least_way(named_rule(4, "front"), ((0, 1, 2, 3), (0,) * 4), (3, 2, 1, 0)), (1, 2, 3))
        self.assertEqual(least_way(named_rule(3, "ahead"), ((0, 1, 2), (0,) * 3), (2, 1, 0)), (1, 2, 2))
        self.assertEqual(least_way(named_rule(3, "second"), ((0, 1, 2), (0,) * 3), (2, 1, 0)), (1, 1, 2, 2))

    def test_wrong_arguments(self):
        self.check_arguments(least_way, "rule", "standing", "order")
        self.check_raises(NoOrder, least_way, SECOND, STANDING, (0, 1, 2))


class TestNoWay(Checks):
    def test_just_the_standings_that_are_reached_ascending(self):
        for rule, standing in drawn():
            for order in words.every_order(rule[0]):
                paper = no_way(rule, standing, order)
                if paper is not None:
                    self.assertEqual(strictly(paper), strictly(words.reached(rule, standing)))
                    self.assertIs(is_no_way(rule, standing, order, paper), True)

    def test_a_new_list_each_time(self):
        self.check_new_list(no_way, STILL, ((0, 1), (0, 0)), (1, 0))

    def test_wrong_arguments(self):
        self.check_arguments(no_way, "rule", "standing", "order")


def is_paper(rule, standing, order, value):
    """Point 7: a paper that there is no way, by the words."""
    if not isinstance(value, list) or not all(words.is_standing(rule, one) for one in value) or standing not in value:
        return False
    behind = [words.ask(rule, one, item)[1] for one in value for item in range(rule[0])]
    return all(one in value for one in behind) and all(one[0] != order for one in value)


class TestIsNoWay(Checks):
    standing = ((2, 0, 1), (0, 0, 0))
    order = (0, 1, 2)

    def right(self, value, rule=LAST):
        """What is_no_way tells of the value; it is the same by the words."""
        told = is_no_way(rule, self.standing, self.order, value)
        self.assertIs(told, is_paper(rule, self.standing, self.order, value), strictly(value))
        return told

    def test_right_papers_in_any_order_and_with_entries_twice(self):
        paper = no_way(LAST, self.standing, self.order)
        self.assertEqual([self.right(paper), self.right(paper[::-1]), self.right(paper * 3)], [True, True, True])

    def test_entries_that_are_not_needed(self):
        other = no_way(LAST, ((1, 0, 2), (0, 0, 0)), self.order)
        self.assertIs(self.right(no_way(LAST, self.standing, self.order) + other), True)
        self.assertIs(self.right(no_way(LAST, self.standing, self.order) + other[:1]), False)

    def test_entries_left_out_put_in_and_bent(self):
        told = [self.right(value) for value in near_paper(no_way(LAST, self.standing, self.order))]
        self.assertGreater(told.count(False), 50)
        self.assertGreater(told.count(True), 1)

    def test_drawn_papers_with_an_entry_left_out(self):
        for rule, standing in drawn():
            for order in words.every_order(rule[0]):
                paper = no_way(rule, standing, order) or []
                for index in range(0, len(paper), 7):
                    value = paper[:index] + paper[index + 1:]
                    self.assertIs(is_no_way(rule, standing, order, value), False)

    def test_the_standing_itself_has_to_be_there(self):
        self.assertIs(self.right([]), False)
        self.assertIs(self.right([((1, 0, 2), (0, 0, 0)), ((1, 2, 0), (0, 0, 0))]), False)

    def test_an_entry_that_has_the_order(self):
        every = words.every_standing(LAST)
        self.assertIs(self.right(every), False)
        self.assertIs(self.right([one for one in every if one[0][0] != 0]), True)
        self.assertIs(is_no_way(LAST, self.standing, self.standing[0], no_way(LAST, self.standing, self.order)), False)

    def test_other_kinds(self):
        paper = no_way(LAST, self.standing, self.order)
        for number, value in enumerate(odd_values() + [nested(90, list), tuple(paper), paper + [None]]):
            with self.subTest(number=number):
                self.assertIs(is_no_way(LAST, self.standing, self.order, value), False)
                self.assertIs(is_no_way(LAST, self.standing, self.order, paper + [value]), False)
        self.assertIs(self.right(paper[:-1] + [(paper[-1][0], (0, 0, False))]), False)
        self.assertIs(self.right(paper + [list(paper[0])]), False)

    def test_many_entries(self):
        self.assertIs(self.right(no_way(LAST, self.standing, self.order) * 5000), True)

    def test_wrong_arguments(self):
        self.check_arguments(is_no_way, "rule", "standing", "order", "value")


class TestNothingChanges(Checks):
    def test_nothing_that_is_passed_is_changed(self):
        paper = [((2, 1, 0), (0, 0, 0)), ((2, 0, 1), (0, 0, 0))]
        self.assertTrue(unchanged_by(is_no_way, LAST, ((2, 0, 1), (0, 0, 0)), (0, 1, 2), paper * 2))
        self.assertTrue(unchanged_by(is_no_way, LAST, ((2, 0, 1), (0, 0, 0)), (0, 1, 2), [[[2, 0, 1], [0, 0, 0]]]))
        self.assertTrue(unchanged_by(is_no_way, LAST, ((2, 0, 1), (0, 0, 0)), [0, 1, 2], paper))
        self.assertTrue(unchanged_by(least_way, LAST, [[2, 0, 1], [0, 0, 0]], [0, 1, 2]))
        self.assertTrue(unchanged_by(no_way, LAST, ((2, 0, 1), (0, 0, 0)), [0, 1, 2]))
        self.assertTrue(unchanged_by(reached, [3, 1], []))

    def test_equal_arguments_tell_the_same(self):
        for _ in range(3):
            self.assertEqual(least_way(SECOND, STANDING, (0, 1)), (0, 0))
            self.assertEqual(no_way(STILL, ((0, 1), (0, 0)), (1, 0)), [((0, 1), (0, 0))])
