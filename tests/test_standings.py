"""Points 2, 4, 5 and 6, and selfsort/standings.py."""

from itertools import product

from selfsort.rules import named_rule
from selfsort.standings import Store, all_standings, ask, is_standing, run
from selfsort.wrongs import NoAsks, NoItem, NoRule, NoStanding
from tests import words
from tests.checks import ARGUMENTS, SECOND, STANDING, STILL, Checks
from tests.samples import Draw, near, nested, odd_values, strictly, unchanged_by

NAMES = ("front", "ahead", "still", "half", "second")
EXAMPLE = """
>>> from selfsort.rules import named_rule
>>> from selfsort.standings import Store, all_standings, ask, run
>>> rule = named_rule(3, 'front')
>>> [ask(rule, ((0, 1, 2), (0, 0, 0)), 2), run(rule, ((0, 1, 2), (0, 0, 0)), (2, 1, 2))]
[(2, ((2, 0, 1), (0, 0, 0))), ([2, 2, 1], ((2, 1, 0), (0, 0, 0)))]
>>> store = Store(named_rule(2, 'second'), ((0, 1), (0, 0)))
>>> [store.ask(1), store.ask(1), store.standing(), store.asked(), len(all_standings(named_rule(2, 'second')))]
[1, 1, ((1, 0), (0, 0)), [(1, 1), (1, 1)], 8]
"""


def some_rules():
    """The named rules, and drawn ones with one and two flags."""
    draw = Draw(6)
    rules = [named_rule(items, name) for items in (2, 3, 4) for name in NAMES]
    return rules + [draw.rule(2 + number % 3, 1 + number % 2) for number in range(12)]


class TestExamples(Checks):
    def test_the_example_of_the_interface(self):
        self.check_examples(EXAMPLE)

    def test_arguments_may_be_passed_by_name(self):
        self.assertIs(is_standing(rule=SECOND, value=STANDING), True)
        self.assertEqual(len(all_standings(rule=SECOND)), 8)
        self.assertEqual(ask(rule=SECOND, standing=STANDING, item=1), (0, ((1, 0), (0, 0))))
        self.assertEqual(run(rule=SECOND, standing=STANDING, asks=(1,)), ([0], ((1, 0), (0, 0))))
        self.assertEqual(Store(rule=SECOND, standing=STANDING).ask(item=0), 1)


class TestIsStanding(Checks):
    def test_just_the_standings_are_standings(self):
        for rule in some_rules():
            for standing in words.every_standing(rule):
                self.assertIs(is_standing(rule, standing), True)

    def test_values_near_standings(self):
        for rule in (SECOND, STILL, named_rule(3, "second"), named_rule(3, "front"), named_rule(4, "half")):
            for standing in words.every_standing(rule)[::5]:
                for value in near(standing):
                    self.assertIs(is_standing(rule, value), words.is_standing(rule, value), strictly(value))

    def test_flags_out_of_range(self):
        for flag, other in product(range(-1, 4), repeat=2):
            with self.subTest(flag=flag, other=other):
                self.assertIs(is_standing(STILL, ((0, 1), (flag, other))), flag == other == 0)
                self.assertIs(is_standing(SECOND, ((0, 1), (flag, other))), 0 <= flag <= 1 and 0 <= other <= 1)

    def test_tuples_of_the_wrong_length(self):
        for value in (((0, 1), ()), ((0, 1), (0,)), ((0, 1), (0, 0, 0)), ((), (0, 0)), ((0,), (0, 0)), ((0, 1),),
                      ((0, 1, 2), (0, 0)), ((0, 1, 2), (0, 0, 0)), ((0, 1), (0, 0), 0), (0, 1, 0, 0), (0, 0)):
            with self.subTest(value=value):
                self.assertIs(is_standing(SECOND, value), False)

    def test_true_and_false_are_no_integers(self):
        for value in (((0, True), (0, 0)), ((False, 1), (0, 0)), ((0, 1), (0, True)), ((0, 1), (False, 0))):
            with self.subTest(value=value):
                self.assertIs(is_standing(SECOND, value), False)

    def test_lists_are_no_tuples(self):
        for value in ([(0, 1), (0, 0)], ([0, 1], (0, 0)), ((0, 1), [0, 0]), [[0, 1], [0, 0]]):
            with self.subTest(value=value):
                self.assertIs(is_standing(SECOND, value), False)

    def test_odd_values_are_no_standings_and_no_parts_of_them(self):
        for index, value in enumerate(odd_values() + [nested(90, tuple)]):
            with self.subTest(index=index):
                self.assertIs(is_standing(SECOND, value), False)
                self.assertIs(is_standing(SECOND, (value, (0, 0))), False)
                self.assertIs(is_standing(SECOND, ((0, 1), value)), strictly(value) == strictly((0, 0)))

    def test_wrong_arguments(self):
        self.check_arguments(is_standing, "rule", "value")
        self.check_raises(NoRule, is_standing, None, None)


class TestAllStandings(Checks):
    def test_all_of_them_ascending(self):
        for rule in some_rules():
            self.assertEqual(strictly(all_standings(rule)), strictly(words.every_standing(rule)))

    def test_how_many_there_are(self):
        self.assertEqual([len(all_standings(named_rule(items, "still"))) for items in (2, 3, 4)], [2, 6, 24])
        self.assertEqual([len(all_standings(named_rule(items, "second"))) for items in (2, 3, 4)], [8, 48, 384])

    def test_a_new_list_each_time(self):
        self.check_new_list(all_standings, SECOND)

    def test_wrong_arguments(self):
        self.check_arguments(all_standings, "rule")


class TestAsk(Checks):
    def test_every_ask_by_the_words(self):
        for rule in some_rules():
            for standing in words.every_standing(rule)[::3]:
                for item in range(rule[0]):
                    told = ask(rule, standing, item)
                    self.assertEqual(strictly(told), strictly(words.ask(rule, standing, item)))

    def test_named_rules(self):
        standing = ((3, 1, 0, 2), (0, 0, 0, 0))
        wanted = {"front": (2, 3, 1, 0), "ahead": (3, 1, 2, 0), "still": (3, 1, 0, 2), "half": (3, 2, 1, 0)}
        for name, order in wanted.items():
            with self.subTest(name=name):
                self.assertEqual(ask(named_rule(4, name), standing, 2), (3, (order, (0, 0, 0, 0))))
                self.assertEqual(ask(named_rule(4, name), standing, 3), (0, standing))

    def test_the_named_rule_with_two_flags(self):
        rule = named_rule(3, "second")
        self.assertEqual(ask(rule, ((1, 2, 0), (0, 1, 0)), 0), (2, ((1, 2, 0), (1, 1, 0))))
        self.assertEqual(ask(rule, ((1, 2, 0), (1, 1, 0)), 0), (2, ((0, 1, 2), (0, 1, 0))))
        self.assertEqual(ask(rule, ((1, 2, 0), (1, 1, 0)), 1), (0, ((1, 2, 0), (1, 0, 0))))
        self.assertEqual(ask(rule, ((1, 2, 0), (1, 0, 0)), 1), (0, ((1, 2, 0), (1, 1, 0))))

    def test_the_flag_goes_with_the_item_and_tells_where_it_goes(self):
        rule = (3, 2, (((0, 1), (0, 1)), ((1, 1), (0, 0)), ((0, 0), (1, 1))))
        self.assertEqual(ask(rule, ((0, 1, 2), (0, 0, 0)), 2), (2, ((2, 0, 1), (0, 0, 0))))
        self.assertEqual(ask(rule, ((0, 1, 2), (0, 0, 1)), 2), (2, ((0, 2, 1), (0, 0, 1))))
        self.assertEqual(ask(rule, ((0, 2, 1), (0, 0, 1)), 2), (1, ((2, 0, 1), (0, 0, 0))))

    def test_wrong_arguments(self):
        self.check_arguments(ask, "rule", "standing", "item")
        self.check_raises(NoItem, ask, SECOND, STANDING, 2)

    def test_a_standing_of_another_rule(self):
        self.check_raises(NoStanding, ask, STILL, STANDING, 0)
        self.check_raises(NoStanding, ask, named_rule(3, "second"), STANDING, 0)


class TestRun(Checks):
    def test_drawn_asks_by_the_words(self):
        draw = Draw(66)
        for rule in some_rules():
            for many in (0, 1, 2, 5, 40):
                standing, asks = draw.one(words.every_standing(rule)), draw.asks(rule[0], many)
                self.assertEqual(strictly(run(rule, standing, asks)), strictly(words.run(rule, standing, asks)))

    def test_an_empty_tuple_of_asks(self):
        self.assertEqual(strictly(run(SECOND, STANDING, ())), strictly(([], STANDING)))

    def test_many_asks(self):
        depths, standing = run(named_rule(2, "front"), ((0, 1), (0, 0)), (1, 0) * 10000)
        self.assertEqual([depths, standing], [[1] * 20000, ((0, 1), (0, 0))])

    def test_the_list_is_new_each_time(self):
        self.check_new_list(lambda: run(SECOND, STANDING, (1, 0, 1))[0])
        self.check_new_list(lambda: run(SECOND, STANDING, ())[0])

    def test_wrong_arguments(self):
        self.check_arguments(run, "rule", "standing", "asks")
        for asks in ([], [0], (2,), (0, -1), (0, 1, True), ((0,),), "01", 0, None):
            with self.subTest(asks=asks):
                self.check_raises(NoAsks, run, SECOND, STANDING, asks)


class TestStore(Checks):
    def test_step_by_step(self):
        rule = named_rule(3, "second")
        store = Store(rule, ((0, 1, 2), (0, 0, 1)))
        self.assertEqual([store.rule(), store.standing(), store.asked()], [rule, ((0, 1, 2), (0, 0, 1)), []])
        self.assertEqual(store.ask(2), 2)
        self.assertEqual([store.standing(), store.asked()], [((2, 0, 1), (0, 0, 0)), [(2, 2)]])
        self.assertEqual(store.ask(1), 2)
        self.assertEqual([store.standing(), store.asked()], [((2, 0, 1), (0, 1, 0)), [(2, 2), (1, 2)]])
        self.assertEqual(store.ask(1), 2)
        self.assertEqual([store.standing(), store.asked()], [((1, 2, 0), (0, 0, 0)), [(2, 2), (1, 2), (1, 2)]])
        self.assertEqual([store.rule(), store.ask(1)], [rule, 0])

    def test_drawn_stores_by_the_words(self):
        draw = Draw(666)
        for rule in some_rules():
            standing = draw.one(words.every_standing(rule))
            store, asked = Store(rule, standing), []
            for item in draw.asks(rule[0], 20):
                depth, standing = words.ask(rule, standing, item)
                asked.append((item, depth))
                self.assertEqual(store.ask(item), depth)
                self.assertEqual(strictly(store.standing()), strictly(standing))
                self.assertEqual(strictly(store.asked()), strictly(asked))
                self.assertEqual(store.rule(), rule)

    def test_asked_tells_a_new_list_each_time(self):
        store = Store(SECOND, STANDING)
        self.check_new_list(store.asked)
        store.ask(1)
        self.check_new_list(store.asked)
        told = store.asked()
        store.ask(0)
        self.assertEqual([told, store.asked()], [[(1, 0)], [(1, 0), (0, 1)]])

    def test_stores_do_not_share_what_was_asked(self):
        first, second = Store(SECOND, STANDING), Store(SECOND, STANDING)
        first.ask(1)
        self.assertEqual([second.asked(), second.standing()], [[], STANDING])

    def test_wrong_items_change_nothing(self):
        store = Store(SECOND, STANDING)
        store.ask(0)
        before = [store.standing(), store.asked()]
        for number, item in enumerate(ARGUMENTS["item"][1] + [2, -1]):
            with self.subTest(number=number):
                self.check_raises(NoItem, store.ask, item)
                self.assertEqual([store.standing(), store.asked()], before)

    def test_wrong_arguments(self):
        self.check_arguments(Store, "rule", "standing")


class TestNothingChanges(Checks):
    def test_nothing_that_is_passed_is_changed(self):
        for call in (is_standing, ask, run):
            rest = [[1, 0]] if call is not is_standing else []
            self.assertTrue(unchanged_by(call, SECOND, [[1, 0], [0, 1]], *rest))
            self.assertTrue(unchanged_by(call, [2, 1, [[[0, 0]], [[0, 0]]]], STANDING, *rest))
            self.assertTrue(unchanged_by(call, SECOND, STANDING, *rest))
        self.assertTrue(unchanged_by(Store, SECOND, [[1, 0], [0, 1]]))
        self.assertTrue(unchanged_by(Store(SECOND, STANDING).ask, [1]))

    def test_equal_arguments_tell_the_same(self):
        for _ in range(3):
            self.assertEqual(run(SECOND, STANDING, (1, 0)), ([0, 1], ((1, 0), (1, 0))))
            self.check_raises(NoRule, run, True, STANDING, (1, 0))
