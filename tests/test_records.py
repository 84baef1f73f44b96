"""Points 2, 3 and 18, and selfsort/records.py."""

from selfsort.blind import blind_row
from selfsort.lots import first_lot
from selfsort.papers import endless_paper, hard_paper
from selfsort.records import judge
from selfsort.rules import named_rule
from selfsort.trees import best_tree, least_asks
from selfsort.ways import least_way, no_way
from selfsort.wrongs import NoRecord
from tests import words
from tests.borders import LOT_OF_601, LOT_OF_601_BLIND, RULES_OF_601, RULES_OF_BLIND
from tests.checks import FRONT, LOT, RULES, SECOND, STANDING, STILL, Checks
from tests.samples import Draw, near, near_paper, nested, odd_values, strictly, unchanged_by
from tests.searches import drawn_blind, drawn_searches, with_row, with_tree, without_row, without_tree

EXAMPLE = """
>>> from selfsort.rules import named_rule
>>> from selfsort.records import judge
>>> rule = named_rule(2, 'front')
>>> [judge(('way', rule, ((0, 1), (0, 0)), (1, 0), (1,))), judge(('no way', rule, ((0, 1), (0, 0)), (1, 0), []))]
[('right',), ('wrong', 3)]
"""
BOTH = first_lot((STILL,))
TURNED = ("sorted", (1, 0))
# A right record of each form, with the number of its conditions.
RIGHT = (
    (("way", SECOND, STANDING, (0, 1), (0, 0)), 5),
    (("no way", STILL, ((0, 1), (0, 0)), (1, 0), [((0, 1), (0, 0))]), 4),
    (("tree", (FRONT,), first_lot((FRONT,)), ("order",), (0, ((0, ()), (1, ())))), 4),
    (("hard", (STILL,), BOTH[:1], TURNED, 1, [(1, BOTH[:1]), (0, BOTH[:1])]), 5),
    (("endless", (STILL,), BOTH[:1], TURNED, [BOTH[:1]]), 4),
    (("blind", (FRONT,), first_lot((FRONT,)), TURNED, (1,)), 5),
)
# For each of its conditions, the entry that it is about, and a value that breaks just this condition.
BROKEN = {
    "way": ((1, (2, 1, ())), (2, ((0, 1), (0, 2))), (3, (0, 2)), (4, [0, 0]), (4, (0,))),
    "no way": ((1, STILL + (0,)), (2, ((0, 1), (0, 1))), (3, [1, 0]), (4, [])),
    "tree": ((1, ()), (2, first_lot((FRONT,))[::-1]), (3, ("orders",)), (4, ())),
    "hard": ((1, STILL), (2, ()), (3, ("front", 2)), (4, 101), (5, [(1, BOTH[:1])])),
    "endless": ((1, (STILL,) * 4), (2, list(BOTH)), (3, ("sorted", (0, 0))), (4, [])),
    "blind": ((1, None), (2, ((1, ((0, 1), (0, 0))),)), (3, ["order"]), (4, (2,)), (4, (0,))),
}


def with_entry(record, index, value):
    """The record with the value in this place."""
    return record[:index] + (value,) + record[index + 1:]


def near_entries(record):
    """Records of the same form that are near this one."""
    found = []
    for index, entry in enumerate(record[1:], start=1):
        others = near_paper(entry) if isinstance(entry, list) else near(entry)
        found += [with_entry(record, index, other) for other in others]
    return found


def opposites():
    """Drawn pairs of records of which one tells what the other one denies."""
    found = []
    for rules, lot, goal in drawn_searches():
        tree, paper = best_tree(rules, lot, goal), endless_paper(rules, lot, goal)
        found.append((("tree", rules, lot, goal, tree), ("endless", rules, lot, goal, paper)))
        number, standing = lot[0]
        order = words.every_order(rules[0][0])[-1]
        way, none = least_way(rules[number], standing, order), no_way(rules[number], standing, order)
        found.append((("way", rules[number], standing, order, way), ("no way", rules[number], standing, order, none)))
    return found


class TestExamples(Checks):
    def test_the_example_of_the_interface(self):
        self.check_examples(EXAMPLE)

    def test_the_record_may_be_passed_by_name(self):
        self.assertEqual(judge(record=RIGHT[0][0]), ("right",))


class TestForms(Checks):
    def told(self, record):
        """What the judge tells of the record; the words tell the same."""
        told = judge(record)
        self.assertEqual(strictly(told), strictly(words.judged(record)))
        return told

    def test_right_ones(self):
        for record, _ in RIGHT:
            self.assertEqual(strictly(self.told(record)), strictly(("right",)))

    def test_wrong_at_each_condition(self):
        for record, many in RIGHT:
            broken = BROKEN[record[0]]
            self.assertEqual(len(broken), many)
            for number, (index, value) in enumerate(broken):
                with self.subTest(form=record[0], number=number):
                    self.assertEqual(self.told(with_entry(record, index, value)), ("wrong", number))

    def test_by_the_first_that_does_not_hold(self):
        for record, many in RIGHT:
            bent = record
            # From the last condition to the first: all behind the first one stay broken, too.
            for number in reversed(range(many)):
                index, value = BROKEN[record[0]][number]
                bent = with_entry(bent, index, value)
                self.assertEqual(judge(bent), ("wrong", number))

    def test_each_entry_exchanged_for_one_near_it(self):
        found = {}
        for record, _ in RIGHT:
            for bent in near_entries(record):
                told = self.told(bent)
                found[record[0], told] = True
        for record, many in RIGHT:
            for told in [("right",)] + [("wrong", number) for number in range(many)]:
                self.assertIn((record[0], told), found)

    def test_entries_of_any_kinds_in_each_place(self):
        # The odd values have no rule, lot, goal or paper among them, but some of the tuples are asks, and 5 is a k.
        values = odd_values() + [nested(90, tuple), nested(90, list), [[]], [()], [None], "front", {}]
        for record, _ in RIGHT:
            for index in range(1, len(record)):
                for number, value in enumerate(values):
                    with self.subTest(form=record[0], index=index, number=number):
                        told = self.told(with_entry(record, index, value))
                        if not isinstance(value, tuple) and strictly(value) != strictly(5):
                            self.assertEqual(told, ("wrong", index - 1))

    def test_entries_of_any_kinds_in_all_places(self):
        for value in odd_values() + [nested(90, tuple), [[]]]:
            for record, _ in RIGHT:
                self.assertEqual(judge(record[:1] + (value,) * (len(record) - 1)), ("wrong", 0))

    def test_the_number_k(self):
        one = BOTH[:1]
        for k in (0, 1, 7, 100):
            record = ("hard", (STILL,), one, TURNED, k, [(left, one) for left in range(101)])
            self.assertEqual(judge(record), ("right",))
        for k in (-1, 101, True, False, None, "1", (1,), [1], 10 ** 19999):
            record = ("hard", (STILL,), one, TURNED, k, [(left, one) for left in range(101)])
            self.assertEqual(judge(record), ("wrong", 3))

    def test_no_asks_at_all(self):
        self.assertEqual(judge(("way", SECOND, STANDING, (1, 0), ())), ("right",))
        self.assertEqual(judge(("way", SECOND, STANDING, (0, 1), ())), ("wrong", 4))
        self.assertEqual(judge(("blind", (STILL,), BOTH, ("rule",), ())), ("right",))
        self.assertEqual(judge(("blind", (STILL,), BOTH, ("order",), ())), ("wrong", 4))

    def test_many_asks(self):
        many = (1, 0) * 9000
        self.assertEqual(judge(("way", FRONT, ((0, 1), (0, 0)), (0, 1), many)), ("right",))
        self.assertEqual(judge(("way", FRONT, ((0, 1), (0, 0)), (1, 0), many)), ("wrong", 4))
        self.assertEqual(judge(("blind", (FRONT,), first_lot((FRONT,)), ("front", 0), many)), ("right",))
        self.assertEqual(judge(("blind", (FRONT,), first_lot((FRONT,)), ("front", 1), many)), ("wrong", 4))

    def test_asks_that_are_blind_are_not_answered(self):
        rules, lot = (STILL,), BOTH
        self.assertEqual(judge(("blind", rules, lot, ("order",), (0, 1))), ("wrong", 4))
        self.assertEqual(judge(("tree", rules, lot, ("order",), (0, ((0, ()), (1, ()))))), ("right",))


class TestNoRecord(Checks):
    def test_values_of_any_kinds(self):
        for number, value in enumerate(odd_values() + [nested(90, tuple), nested(90, list), "way", ("way",), {}]):
            with self.subTest(number=number):
                self.check_raises(NoRecord, judge, value)

    def test_lists_and_other_lengths(self):
        for record, _ in RIGHT:
            for value in (list(record), record[:-1], record[1:], record + (0,), record + record[-1:], record[:1],
                          (record,), [record], record[::-1], record * 2):
                self.assertIs(words.is_record(value), False)
                self.check_raises(NoRecord, judge, value)

    def test_first_entries_near_the_words(self):
        for record, _ in RIGHT:
            for word in near(record[0]) + ["ways", "noway", "no_way", "No way", "trees", "sorted", "dear", "any", ""]:
                self.check_raises(NoRecord, judge, (word,) + record[1:])

    def test_first_entries_of_other_kinds(self):
        for record, _ in RIGHT:
            for number, value in enumerate(odd_values() + [nested(90, tuple), nested(90, list), [record[0]], 0, 1.5]):
                with self.subTest(form=record[0], number=number):
                    self.check_raises(NoRecord, judge, (value,) + record[1:])

    def test_the_word_of_another_form(self):
        for record, _ in RIGHT:
            for other, _ in RIGHT:
                value = other[:1] + record[1:]
                if len(other) != len(record):
                    self.check_raises(NoRecord, judge, value)
                else:
                    self.assertEqual(strictly(judge(value)), strictly(words.judged(value)))


class TestWhatTheProgramTells(Checks):
    def check_right(self, *record):
        """The record is right, by the words, too."""
        self.assertEqual([judge(record), words.judged(record)], [("right",), ("right",)])

    def test_ways_and_papers_that_there_is_none(self):
        draw, found = Draw(18), {True: 0, False: 0}
        for number in range(60):
            rule = draw.rule(2 + number % 3, 1 + number % 2)
            standing, order = draw.one(words.every_standing(rule)), draw.one(words.every_order(rule[0]))
            way, paper = least_way(rule, standing, order), no_way(rule, standing, order)
            found[way is None] += 1
            if way is not None:
                self.check_right("way", rule, standing, order, way)
            else:
                self.check_right("no way", rule, standing, order, paper)
                self.check_right("no way", rule, standing, order, paper[::-1] * 2)
        self.assertGreater(min(found.values()), 5)

    def test_best_trees_and_hard_papers(self):
        for rules, lot, goal in with_tree():
            self.check_right("tree", rules, lot, goal, best_tree(rules, lot, goal))
            height = least_asks(rules, lot, goal)
            if height:
                self.check_right("hard", rules, lot, goal, height - 1, hard_paper(rules, lot, goal, height - 1))
                bent = ("hard", rules, lot, goal, height, hard_paper(rules, lot, goal, height - 1))
                self.assertEqual(judge(bent), ("wrong", 4))

    def test_endless_and_hard_papers_where_there_is_no_tree(self):
        for rules, lot, goal in without_tree():
            self.check_right("endless", rules, lot, goal, endless_paper(rules, lot, goal))
            for k in (0, 3):
                self.check_right("hard", rules, lot, goal, k, hard_paper(rules, lot, goal, k))

    def test_blind_rows(self):
        for search in with_row():
            self.check_right("blind", *search, blind_row(*search))
        draw = Draw(181)
        for rules, lot, goal in drawn_blind():
            record = ("blind", rules, lot, goal, draw.asks(rules[0][0], draw.below(4)))
            self.assertEqual(judge(record), words.judged(record))
        for rules, lot, goal in without_row():
            self.assertEqual(judge(("blind", rules, lot, goal, draw.asks(rules[0][0], 30))), ("wrong", 4))

    def test_of_two_opposite_records_just_one_is_right(self):
        for one, other in opposites():
            told = [judge(one), judge(other)]
            self.assertEqual(sorted(word for word, *_ in told), ["right", "wrong"])
            self.assertEqual(told, [words.judged(one), words.judged(other)])


class TestTooMany(Checks):
    def test_also_where_more_than_600_lots_come(self):
        rules, lot = RULES_OF_601, LOT_OF_601
        self.assertEqual(judge(("tree", rules, lot, ("rule",), ())), ("right",))
        self.assertEqual(judge(("tree", rules, lot, ("case",), ())), ("wrong", 3))
        self.assertEqual(judge(("hard", rules, lot, ("case",), 0, [(0, lot)])), ("right",))
        self.assertEqual(judge(("hard", rules, lot, ("case",), 1, [(1, lot)])), ("wrong", 4))
        self.assertEqual(judge(("endless", rules, lot, ("case",), [lot])), ("wrong", 3))
        self.assertEqual(judge(("blind", rules, lot, ("rule",), (0, 1, 2))), ("right",))
        self.assertEqual(judge(("blind", rules, lot, ("case",), (0, 1, 2))), words.judged(
            ("blind", rules, lot, ("case",), (0, 1, 2))))

    def test_also_where_more_than_600_lots_come_blind(self):
        for goal in (("rule",), ("front", 3), ("order",)):
            for asks in ((), (3,), (0, 3), (3, 2, 1, 0) * 9):
                record = ("blind", RULES_OF_BLIND, LOT_OF_601_BLIND, goal, asks)
                self.assertEqual(judge(record), words.judged(record))


class TestNothingChanges(Checks):
    def test_nothing_that_is_passed_is_changed(self):
        for record, _ in RIGHT:
            self.assertTrue(unchanged_by(judge, record))
            self.assertTrue(unchanged_by(judge, list(record)))
            for index in range(1, len(record)):
                self.assertTrue(unchanged_by(judge, with_entry(record, index, [[0, [1]], [LOT]])))

    def test_equal_records_are_judged_the_same(self):
        for record, _ in RIGHT:
            self.assertEqual([judge(record) for _ in range(3)], [("right",)] * 3)
        rules = (named_rule(3, "front"),)
        for _ in range(3):
            self.assertEqual(judge(("tree", rules, first_lot(rules), ("order",), ())), ("wrong", 3))
            self.assertEqual(judge(("tree", RULES, LOT, ("front", 5), ())), ("wrong", 2))
