"""Points 1 and 2: all parts are there, under their names and with their arguments."""

import inspect
import unittest

from selfsort import blind, costs, crowd, goals, lots, orders, papers, parting, records, rules, seeker, standings
from selfsort import sure, trees, twins, ways, wrongs

FUNCTIONS = (
    (orders, "is_order", ["items", "value"]),
    (orders, "all_orders", ["items"]),
    (orders, "place_of", ["order", "item"]),
    (orders, "moved", ["order", "item", "place"]),
    (rules, "is_rule", ["value"]),
    (rules, "named_rule", ["items", "value"]),
    (standings, "is_standing", ["rule", "value"]),
    (standings, "all_standings", ["rule"]),
    (standings, "ask", ["rule", "standing", "item"]),
    (standings, "run", ["rule", "standing", "asks"]),
    (ways, "reached", ["rule", "standing"]),
    (ways, "least_way", ["rule", "standing", "order"]),
    (ways, "no_way", ["rule", "standing", "order"]),
    (ways, "is_no_way", ["rule", "standing", "order", "value"]),
    (parting, "parting_asks", ["rules", "one", "other"]),
    (parting, "parted_by", ["rules", "one", "other", "asks"]),
    (lots, "are_rules", ["value"]),
    (lots, "is_lot", ["rules", "value"]),
    (lots, "first_lot", ["rules"]),
    (lots, "answers", ["rules", "lot", "item"]),
    (lots, "behind", ["rules", "lot", "item", "value"]),
    (lots, "fitting", ["rules", "lot", "log"]),
    (lots, "coming", ["rules", "lot"]),
    (goals, "is_goal", ["rules", "value"]),
    (goals, "reaches", ["rules", "lot", "goal"]),
    (trees, "least_asks", ["rules", "lot", "goal"]),
    (trees, "best_tree", ["rules", "lot", "goal"]),
    (trees, "is_tree", ["rules", "lot", "goal", "value"]),
    (trees, "height_of", ["rules", "lot", "goal", "value"]),
    (papers, "hard_paper", ["rules", "lot", "goal", "k"]),
    (papers, "is_hard", ["rules", "lot", "goal", "k", "value"]),
    (papers, "endless_paper", ["rules", "lot", "goal"]),
    (papers, "is_endless", ["rules", "lot", "goal", "value"]),
    (blind, "behind_blind", ["rules", "lot", "item"]),
    (blind, "blind_row", ["rules", "lot", "goal"]),
    (blind, "blind_paper", ["rules", "lot", "goal"]),
    (blind, "is_blind_paper", ["rules", "lot", "goal", "value"]),
    (costs, "least_cost", ["rules", "lot", "goal"]),
    (costs, "cheapest_tree", ["rules", "lot", "goal"]),
    (costs, "dear_paper", ["rules", "lot", "goal", "k"]),
    (costs, "cost_of", ["rules", "lot", "goal", "value"]),
    (costs, "is_dear", ["rules", "lot", "goal", "k", "value"]),
    (sure, "sure_pairs", ["rules", "lot"]),
    (sure, "sure_places", ["rules", "lot"]),
    (records, "judge", ["record"]),
    (twins, "twins", ["rule"]),
    (twins, "are_twins", ["rule", "standing", "other"]),
)

# A class, the arguments that it is made of, and those of its methods.
CLASSES = (
    (standings, "Store", ["rule", "standing"], {"ask": ["item"], "rule": [], "standing": [], "asked": []}),
    (seeker, "Seeker", ["rules", "lot"], {
        "told": ["item", "answer"], "lot": [], "log": [], "would": ["item", "answer"], "left": ["goal"],
        "next_item": ["goal"], "mark": [], "back": ["number"], "marks": [],
    }),
    (crowd, "Crowd", ["rules", "lot", "seekers"], {
        "told": ["seeker", "item", "answer"], "called": ["item"], "lot": ["seeker"], "shared": [],
    }),
)

ERRORS = (
    ("SortError", []), ("NoItems", []), ("NoOrder", []), ("NoItem", []), ("NoPlace", []), ("NoRule", []),
    ("NoStanding", []), ("NoAsks", []), ("NoRules", []), ("NoCase", []), ("NoLot", []), ("NoGoal", []),
    ("NoLog", []), ("NoNumber", []), ("NoName", []), ("NoRecord", []), ("NoSeeker", []),
    ("NoAnswer", ["answer"]), ("NoMark", ["number"]), ("TooMany", ["limit"]),
)


class TestInterface(unittest.TestCase):
    def test_each_function_is_defined_in_its_file(self):
        for module, name, _ in FUNCTIONS:
            with self.subTest(name=name):
                found = getattr(module, name)
                self.assertTrue(inspect.isfunction(found))
                self.assertEqual(found.__module__, module.__name__)

    def test_each_function_has_its_arguments(self):
        for module, name, arguments in FUNCTIONS:
            with self.subTest(name=name):
                self.assertEqual(list(inspect.signature(getattr(module, name)).parameters), arguments)

    def test_each_class_is_defined_in_its_file_with_its_methods(self):
        for module, name, arguments, methods in CLASSES:
            with self.subTest(name=name):
                found = getattr(module, name)
                self.assertTrue(inspect.isclass(found))
                self.assertEqual(found.__module__, module.__name__)
                self.assertEqual(list(inspect.signature(found).parameters), arguments)
                for method, passed in methods.items():
                    self.assertIn(method, vars(found))
                    self.assertEqual(list(inspect.signature(vars(found)[method]).parameters), ["self"] + passed)

    def test_each_error_is_defined_in_wrongs(self):
        for name, _ in ERRORS:
            with self.subTest(name=name):
                found = getattr(wrongs, name)
                self.assertTrue(inspect.isclass(found))
                self.assertEqual(found.__module__, "selfsort.wrongs")

    def test_errors_with_a_field_have_its_argument(self):
        for name, arguments in ERRORS:
            if arguments:
                with self.subTest(name=name):
                    self.assertEqual(list(inspect.signature(getattr(wrongs, name)).parameters), arguments)

    def test_there_are_no_other_errors(self):
        classes = [name for name, _ in inspect.getmembers(wrongs, inspect.isclass)]
        self.assertEqual(sorted(classes), sorted([name for name, _ in ERRORS]))


if __name__ == "__main__":
    unittest.main()
