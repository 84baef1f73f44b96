"""Points 2 and 4, and selfsort/orders.py."""

import unittest

from selfsort.orders import all_orders, is_order, moved, place_of
from selfsort.wrongs import NoItem, NoItems, NoOrder, NoPlace
from tests.samples import near, odd_values, strictly, unchanged_by
from tests.words import order_behind

ORDERS = {
    2: [(0, 1), (1, 0)],
    3: [(0, 1, 2), (0, 2, 1), (1, 0, 2), (1, 2, 0), (2, 0, 1), (2, 1, 0)],
    4: [
        (0, 1, 2, 3), (0, 1, 3, 2), (0, 2, 1, 3), (0, 2, 3, 1), (0, 3, 1, 2), (0, 3, 2, 1),
        (1, 0, 2, 3), (1, 0, 3, 2), (1, 2, 0, 3), (1, 2, 3, 0), (1, 3, 0, 2), (1, 3, 2, 0),
        (2, 0, 1, 3), (2, 0, 3, 1), (2, 1, 0, 3), (2, 1, 3, 0), (2, 3, 0, 1), (2, 3, 1, 0),
        (3, 0, 1, 2), (3, 0, 2, 1), (3, 1, 0, 2), (3, 1, 2, 0), (3, 2, 0, 1), (3, 2, 1, 0),
    ],
}
EVERY_ORDER = ORDERS[2] + ORDERS[3] + ORDERS[4]
NO_NUMBERS_OF_ITEMS = odd_values() + [0, 1, 5, 6, -2, "3", (3,), [3]]


class TestExamples(unittest.TestCase):
    def test_the_example_of_the_interface(self):
        told = [
            is_order(3, (2, 0, 1)), is_order(3, (0, 0, 1)), all_orders(2), place_of((2, 0, 1), 1),
            moved((2, 0, 1), 1, 0),
        ]
        self.assertEqual(repr(told), "[True, False, [(0, 1), (1, 0)], 2, (1, 2, 0)]")

    def test_arguments_may_be_passed_by_name(self):
        self.assertIs(is_order(items=2, value=(1, 0)), True)
        self.assertEqual(all_orders(items=2), [(0, 1), (1, 0)])
        self.assertEqual(place_of(order=(1, 0), item=0), 1)
        self.assertEqual(moved(order=(1, 0), item=0, place=0), (0, 1))


class TestIsOrder(unittest.TestCase):
    def test_just_the_orders_of_so_many_items_are_orders(self):
        for items in (2, 3, 4):
            for order in EVERY_ORDER:
                with self.subTest(items=items, order=order):
                    self.assertIs(is_order(items, order), len(order) == items)

    def test_values_near_an_order(self):
        for items in (2, 3, 4):
            right = {strictly(order) for order in ORDERS[items]}
            for order in ORDERS[items]:
                for value in near(order):
                    with self.subTest(items=items, value=strictly(value)):
                        self.assertIs(is_order(items, value), strictly(value) in right)

    def test_true_and_false_are_no_items(self):
        for value in ((0, True), (False, 1), (False, True), (True, False), (True, 0), (1, False)):
            with self.subTest(value=value):
                self.assertIs(is_order(2, value), False)

    def test_a_list_is_no_order(self):
        for order in EVERY_ORDER:
            self.assertIs(is_order(len(order), list(order)), False)

    def test_odd_values_are_no_orders(self):
        for items in (3, 4):
            for index, value in enumerate(odd_values()):
                with self.subTest(items=items, index=index):
                    self.assertIs(is_order(items, value), False)

    def test_huge_items_are_no_items(self):
        self.assertIs(is_order(2, (0, 10 ** 19999)), False)
        self.assertIs(is_order(2, (-(10 ** 19999), 1)), False)

    def test_no_number_of_items(self):
        for index, items in enumerate(NO_NUMBERS_OF_ITEMS):
            with self.subTest(index=index):
                self.assertRaises(NoItems, is_order, items, (0, 1))
                self.assertRaises(NoItems, is_order, items, None)


class TestAllOrders(unittest.TestCase):
    def test_all_orders_ascending(self):
        for items in (2, 3, 4):
            with self.subTest(items=items):
                self.assertEqual(strictly(all_orders(items)), strictly(ORDERS[items]))

    def test_a_new_list_each_time(self):
        first = all_orders(3)
        second = all_orders(3)
        self.assertIsNot(first, second)
        first.clear()
        self.assertEqual(second, ORDERS[3])
        self.assertEqual(all_orders(3), ORDERS[3])

    def test_no_number_of_items(self):
        for index, items in enumerate(NO_NUMBERS_OF_ITEMS):
            with self.subTest(index=index):
                self.assertRaises(NoItems, all_orders, items)


class TestPlaceOf(unittest.TestCase):
    def test_the_place_of_each_item(self):
        for order in EVERY_ORDER:
            for place in range(len(order)):
                with self.subTest(order=order, place=place):
                    self.assertEqual(place_of(order, order[place]), place)

    def test_no_order(self):
        for index, value in enumerate(odd_values() + [0, 2, [1, 0], (0, 1, 1), (1, 2, 3), (0,), (0, 1, 2, 3, 4)]):
            with self.subTest(index=index):
                self.assertRaises(NoOrder, place_of, value, 0)
                self.assertRaises(NoOrder, place_of, value, "none")

    def test_no_item(self):
        for order in ((1, 0), (0, 2, 1), (3, 1, 0, 2)):
            for index, item in enumerate(odd_values() + [len(order), -1, "1", (1,), [1]]):
                with self.subTest(order=order, index=index):
                    self.assertRaises(NoItem, place_of, order, item)


class TestMoved(unittest.TestCase):
    def test_each_move_by_the_words_of_point_4(self):
        for order in EVERY_ORDER:
            for own, item in enumerate(order):
                for place in range(own + 1):
                    with self.subTest(order=order, item=item, place=place):
                        told = moved(order, item, place)
                        self.assertEqual(strictly(told), strictly(order_behind(order, item, place)))

    def test_some_moves(self):
        self.assertEqual(moved((3, 1, 0, 2), 2, 0), (2, 3, 1, 0))
        self.assertEqual(moved((3, 1, 0, 2), 2, 1), (3, 2, 1, 0))
        self.assertEqual(moved((3, 1, 0, 2), 0, 0), (0, 3, 1, 2))
        self.assertEqual(moved((3, 1, 0, 2), 0, 2), (3, 1, 0, 2))
        self.assertEqual(moved((0, 1), 0, 0), (0, 1))

    def test_a_place_behind_the_items_own_is_none(self):
        for order in EVERY_ORDER:
            for own, item in enumerate(order):
                for place in range(own + 1, len(order) + 2):
                    with self.subTest(order=order, item=item, place=place):
                        self.assertRaises(NoPlace, moved, order, item, place)

    def test_no_place(self):
        for index, place in enumerate(odd_values() + [-1, -2, 4, "0", (0,), [0]]):
            with self.subTest(index=index):
                self.assertRaises(NoPlace, moved, (3, 1, 0, 2), 2, place)

    def test_the_arguments_are_looked_at_in_their_order(self):
        self.assertRaises(NoOrder, moved, [0, 1], True, None)
        self.assertRaises(NoOrder, moved, (0, True), 0, 0)
        self.assertRaises(NoItem, moved, (0, 1), True, None)
        self.assertRaises(NoItem, moved, (0, 1), 2, 9)
        self.assertRaises(NoPlace, moved, (0, 1), 1, True)
        self.assertRaises(NoPlace, moved, (0, 1), 1, None)

    def test_odd_values_in_front(self):
        for index, value in enumerate(odd_values()):
            with self.subTest(index=index):
                self.assertRaises(NoOrder, moved, value, 0, 0)
                self.assertRaises(NoItem, moved, (0, 1, 2, 3), value, 0)


class TestNothingChanges(unittest.TestCase):
    def test_nothing_that_is_passed_is_changed(self):
        self.assertTrue(unchanged_by(is_order, 3, [2, [0], 1]))
        self.assertTrue(unchanged_by(is_order, [3], [2]))
        self.assertTrue(unchanged_by(all_orders, [[3]]))
        self.assertTrue(unchanged_by(place_of, [0, 1], [1]))
        self.assertTrue(unchanged_by(place_of, (0, 1), [1]))
        self.assertTrue(unchanged_by(moved, [0, 1], [1], [0]))
        self.assertTrue(unchanged_by(moved, (0, 1), 1, [0]))

    def test_equal_arguments_tell_the_same(self):
        for _ in range(3):
            self.assertEqual(moved((0, 2, 1), 1, 1), (0, 1, 2))
            self.assertRaises(NoPlace, moved, (0, 2, 1), 2, 2)
            self.assertIs(is_order(2, (1, 0)), True)
            self.assertIs(is_order(2, (True, 0)), False)


if __name__ == "__main__":
    unittest.main()
