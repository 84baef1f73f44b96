"""Points 1 and 2: the parts that have landed are there, under their names and with their arguments."""

import inspect
import unittest

from selfsort import orders, rules, wrongs

FUNCTIONS = (
    (orders, "is_order", ["items", "value"]),
    (orders, "all_orders", ["items"]),
    (orders, "place_of", ["order", "item"]),
    (orders, "moved", ["order", "item", "place"]),
    (rules, "is_rule", ["value"]),
    (rules, "named_rule", ["items", "value"]),
)

ERRORS = (
    ("SortError", []), ("NoItems", []), ("NoOrder", []), ("NoItem", []), ("NoPlace", []), ("NoRule", []),
    ("NoStanding", []), ("NoAsks", []), ("NoRules", []), ("NoCase", []), ("NoLot", []), ("NoGoal", []),
    ("NoLog", []), ("NoNumber", []), ("NoName", []), ("NoRecord", []), ("NoSeeker", []),
    ("NoAnswer", ["answer"]), ("NoMark", ["number"]), ("TooMany", ["limit"]),
)


class TestInterface(unittest.TestCase):
    def test_each_function_is_defined_in_its_file(self):
        for module, name, _ in FUNCTIONS:
            with self.subTest(name=name):
                found = getattr(module, name)
                self.assertTrue(inspect.isfunction(found))
                self.assertEqual(found.__module__, module.__name__)

    def test_each_function_has_its_arguments(self):
        for module, name, arguments in FUNCTIONS:
            with self.subTest(name=name):
                self.assertEqual(list(inspect.signature(getattr(module, name)).parameters), arguments)

    def test_each_error_is_defined_in_wrongs(self):
        for name, _ in ERRORS:
            with self.subTest(name=name):
                found = getattr(wrongs, name)
                self.assertTrue(inspect.isclass(found))
                self.assertEqual(found.__module__, "selfsort.wrongs")

    def test_errors_with_a_field_have_its_argument(self):
        for name, arguments in ERRORS:
            if arguments:
                with self.subTest(name=name):
                    self.assertEqual(list(inspect.signature(getattr(wrongs, name)).parameters), arguments)

    def test_there_are_no_other_errors(self):
        classes = [name for name, _ in inspect.getmembers(wrongs, inspect.isclass)]
        self.assertEqual(sorted(classes), sorted([name for name, _ in ERRORS]))


if __name__ == "__main__":
    unittest.main()
