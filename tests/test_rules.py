"""Points 2 and 5, and selfsort/rules.py."""

import unittest

from selfsort.rules import is_rule, named_rule
from selfsort.wrongs import NoItems, NoName
from tests.samples import near, nested, odd_values, strictly, unchanged_by
from tests.words import every_rule, rows_of_place

NAMED = {
    (2, "front"): (2, 1, (((0, 0),), ((0, 0),))),
    (3, "front"): (3, 1, (((0, 0),), ((0, 0),), ((0, 0),))),
    (4, "front"): (4, 1, (((0, 0),), ((0, 0),), ((0, 0),), ((0, 0),))),
    (2, "ahead"): (2, 1, (((0, 0),), ((0, 0),))),
    (3, "ahead"): (3, 1, (((0, 0),), ((0, 0),), ((1, 0),))),
    (4, "ahead"): (4, 1, (((0, 0),), ((0, 0),), ((1, 0),), ((2, 0),))),
    (2, "still"): (2, 1, (((0, 0),), ((1, 0),))),
    (3, "still"): (3, 1, (((0, 0),), ((1, 0),), ((2, 0),))),
    (4, "still"): (4, 1, (((0, 0),), ((1, 0),), ((2, 0),), ((3, 0),))),
    (2, "half"): (2, 1, (((0, 0),), ((0, 0),))),
    (3, "half"): (3, 1, (((0, 0),), ((0, 0),), ((1, 0),))),
    (4, "half"): (4, 1, (((0, 0),), ((0, 0),), ((1, 0),), ((1, 0),))),
    (2, "second"): (2, 2, (((0, 1), (0, 0)), ((1, 1), (0, 0)))),
    (3, "second"): (3, 2, (((0, 1), (0, 0)), ((1, 1), (0, 0)), ((2, 1), (0, 0)))),
    (4, "second"): (4, 2, (((0, 1), (0, 0)), ((1, 1), (0, 0)), ((2, 1), (0, 0)), ((3, 1), (0, 0)))),
}


def texts_of_rules():
    """The texts of every rule with one flag, and of those with two flags and less than 4 items."""
    sizes = [(2, 1), (3, 1), (4, 1), (2, 2), (3, 2)]
    return {strictly(rule) for items, flags in sizes for rule in every_rule(items, flags)}


class TestExamples(unittest.TestCase):
    def test_the_example_of_the_interface(self):
        told = [named_rule(2, 'front'), named_rule(2, 'second'), is_rule((2, 1, (((0, 0),), ((2, 0),))))]
        wanted = "[(2, 1, (((0, 0),), ((0, 0),))), (2, 2, (((0, 1), (0, 0)), ((1, 1), (0, 0)))), False]"
        self.assertEqual(repr(told), wanted)

    def test_arguments_may_be_passed_by_name(self):
        self.assertEqual(named_rule(items=2, value="still"), NAMED[2, "still"])
        self.assertIs(is_rule(value=NAMED[2, "still"]), True)


class TestIsRule(unittest.TestCase):
    def test_every_rule_of_2_and_3_items_is_one(self):
        for items in (2, 3):
            for flags in (1, 2):
                for rule in every_rule(items, flags):
                    self.assertIs(is_rule(rule), True, rule)

    def test_rules_of_4_items(self):
        for rule in every_rule(4, 1):
            self.assertIs(is_rule(rule), True, rule)
        for row in rows_of_place(3, 2):
            rule = (4, 2, NAMED[4, "second"][2][:3] + (row,))
            self.assertIs(is_rule(rule), True, rule)

    def test_values_near_a_rule(self):
        right = texts_of_rules()
        rules = every_rule(2, 1) + every_rule(2, 2) + every_rule(3, 1) + every_rule(4, 1) + [NAMED[3, "second"]]
        for rule in rules:
            for value in near(rule):
                text = strictly(value)
                self.assertIs(is_rule(value), text in right, text)

    def test_items_that_are_not_right(self):
        table = NAMED[2, "still"][2]
        for items in (1, 0, 3, 4, 5, -2, True, "2", None, (2,), [2]):
            with self.subTest(items=items):
                self.assertIs(is_rule((items, 1, table)), False)
        self.assertIs(is_rule((1, 1, (((0, 0),),))), False)
        self.assertIs(is_rule((True, 1, (((0, 0),),))), False)
        self.assertIs(is_rule((0, 1, ())), False)
        self.assertIs(is_rule((5, 1, (((0, 0),),) * 5)), False)

    def test_flags_that_are_not_right(self):
        for flags in (0, 2, 3, -1, True, False, "1", None, (1,), [1]):
            with self.subTest(flags=flags):
                self.assertIs(is_rule((2, flags, NAMED[2, "still"][2])), False)
        self.assertIs(is_rule((2, 0, ((), ()))), False)
        self.assertIs(is_rule((2, 3, (((0, 0),) * 3,) * 2)), False)
        self.assertIs(is_rule((2, True, (((0, 0),), ((0, 0),)))), False)

    def test_lengths_of_the_table_that_are_not_right(self):
        self.assertIs(is_rule((3, 1, (((0, 0),),) * 2)), False)
        self.assertIs(is_rule((3, 1, (((0, 0),),) * 4)), False)
        self.assertIs(is_rule((3, 1, (((0, 0),), ((0, 0), (0, 0)), ((0, 0),)))), False)
        self.assertIs(is_rule((3, 1, (((0, 0),), (), ((0, 0),)))), False)
        self.assertIs(is_rule((3, 1, (((0, 0),), ((0, 0, 0),), ((0, 0),)))), False)
        self.assertIs(is_rule((3, 1, (((0, 0),), ((0,),), ((0, 0),)))), False)
        self.assertIs(is_rule((3, 1, ())), False)

    def test_where_an_item_goes(self):
        for place in range(4):
            for to in range(-2, 6):
                table = ((((0, 0),),) * place) + (((to, 0),),) + ((((0, 0),),) * (3 - place))
                with self.subTest(place=place, to=to):
                    self.assertIs(is_rule((4, 1, table)), 0 <= to <= place)

    def test_the_flag_that_it_gets(self):
        for flags in (1, 2):
            for flag in range(-2, 4):
                for place in range(3):
                    rows = [((0, 0),) * flags, ((0, 0),) * flags, ((0, 0),) * flags]
                    rows[place] = ((0, 0),) * (flags - 1) + ((0, flag),)
                    with self.subTest(flags=flags, flag=flag, place=place):
                        self.assertIs(is_rule((3, flags, tuple(rows))), 0 <= flag < flags)

    def test_true_and_false_are_no_integers_in_a_rule(self):
        self.assertIs(is_rule((2, 1, (((False, 0),), ((0, 0),)))), False)
        self.assertIs(is_rule((2, 1, (((0, False),), ((0, 0),)))), False)
        self.assertIs(is_rule((2, 1, (((0, 0),), ((True, 0),)))), False)
        self.assertIs(is_rule((2, 2, (((0, 0), (0, 0)), ((0, 0), (0, True))))), False)

    def test_lists_are_no_tuples(self):
        self.assertIs(is_rule([2, 1, (((0, 0),), ((0, 0),))]), False)
        self.assertIs(is_rule((2, 1, [((0, 0),), ((0, 0),)])), False)
        self.assertIs(is_rule((2, 1, ([(0, 0)], ((0, 0),)))), False)
        self.assertIs(is_rule((2, 1, (([0, 0],), ((0, 0),)))), False)

    def test_odd_values_are_no_rules(self):
        for index, value in enumerate(odd_values() + [0, 1, 2, 3, 4, "front", nested(90, tuple)]):
            with self.subTest(index=index):
                self.assertIs(is_rule(value), False)

    def test_odd_values_are_no_parts_of_rules(self):
        for index, value in enumerate(odd_values()):
            with self.subTest(index=index):
                self.assertIs(is_rule((value, 1, (((0, 0),), ((0, 0),)))), False)
                self.assertIs(is_rule((2, value, (((0, 0),), ((0, 0),)))), False)
                self.assertIs(is_rule((2, 1, value)), False)
                self.assertIs(is_rule((2, 1, (((0, 0),), value))), False)
                self.assertIs(is_rule((2, 1, (((0, 0),), ((value, 0),)))), False)
                self.assertIs(is_rule((2, 1, (((0, 0),), ((0, value),)))), False)
                self.assertIs(is_rule((2, 1, (((0, 0),), (value,)))), strictly(value) == strictly((0, 0)))


class TestNamedRule(unittest.TestCase):
    def test_the_named_rules(self):
        for (items, name), rule in NAMED.items():
            with self.subTest(items=items, name=name):
                self.assertEqual(strictly(named_rule(items, name)), strictly(rule))

    def test_they_are_rules(self):
        for items, name in NAMED:
            with self.subTest(items=items, name=name):
                self.assertIs(is_rule(named_rule(items, name)), True)

    def test_no_number_of_items(self):
        for index, items in enumerate(odd_values() + [0, 1, 5, "3", (3,), [3]]):
            with self.subTest(index=index):
                self.assertRaises(NoItems, named_rule, items, "front")
                self.assertRaises(NoItems, named_rule, items, None)

    def test_no_name(self):
        names = ["", "Front", "fron", "fronts", " front", "seconds", "first", "none", 0, 1, True, ("front",)]
        for items in (2, 3, 4):
            for index, name in enumerate(odd_values() + names + [["front"], ("front", "ahead")]):
                with self.subTest(items=items, index=index):
                    self.assertRaises(NoName, named_rule, items, name)

    def test_the_arguments_are_looked_at_in_their_order(self):
        self.assertRaises(NoItems, named_rule, True, "nothing")
        self.assertRaises(NoName, named_rule, 2, "nothing")


class TestNothingChanges(unittest.TestCase):
    def test_nothing_that_is_passed_is_changed(self):
        self.assertTrue(unchanged_by(is_rule, [2, 1, [[[0, 0]], [[0, 0]]]]))
        self.assertTrue(unchanged_by(is_rule, (2, 1, [[[0, 0]], [[0, 0]]])))
        self.assertTrue(unchanged_by(is_rule, (2, 1, (([0, 0],), [[0, 0]]))))
        self.assertTrue(unchanged_by(named_rule, 2, ["front"]))
        self.assertTrue(unchanged_by(named_rule, [2], "front"))

    def test_equal_arguments_tell_the_same(self):
        for _ in range(3):
            self.assertEqual(named_rule(3, "half"), NAMED[3, "half"])
            self.assertIs(is_rule(NAMED[3, "half"]), True)
            self.assertRaises(NoName, named_rule, 3, "third")


if __name__ == "__main__":
    unittest.main()
