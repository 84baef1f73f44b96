"""Points 2, 3 and 17, and selfsort/seeker.py."""

from selfsort.lots import answers, behind, first_lot, fitting
from selfsort.rules import named_rule
from selfsort.seeker import Seeker
from selfsort.trees import least_asks
from selfsort.wrongs import NoAnswer, NoGoal, NoItem, NoMark, TooMany
from tests import words
from tests.borders import LOT_OF_600, LOT_OF_601, RULES_OF_600, RULES_OF_601
from tests.checks import ARGUMENTS, FRONT, LOT, RULES, SECOND, STILL, Checks
from tests.samples import Draw, nested, odd_values, strictly, unchanged_by
from tests.searches import drawn_searches, with_tree, without_tree

EXAMPLE = """
>>> from selfsort.rules import named_rule
>>> from selfsort.lots import first_lot
>>> from selfsort.seeker import Seeker
>>> rules = (named_rule(3, 'front'),)
>>> seeker = Seeker(rules, first_lot(rules))
>>> [seeker.left(('order',)), seeker.next_item(('order',)), seeker.mark(), seeker.told(2, 1), len(seeker.lot())]
[2, 0, 0, None, 2]
>>> [seeker.log(), seeker.left(('order',)), seeker.left(('front', 2)), seeker.back(0), seeker.log(), seeker.marks()]
[((2, 1),), 1, 0, None, (), [0]]
"""
THREE = (named_rule(3, "front"),)
GOALS = (("order",), ("case",), ("rule",), ("front", 0), ("front", 1))


def seen(seeker):
    """All that a seeker tells of how it is now, as a text."""
    return strictly([seeker.lot(), seeker.log(), seeker.marks(), seeker.left(("order",)), seeker.next_item(("case",))])


class TestExamples(Checks):
    def test_the_example_of_the_interface(self):
        self.check_examples(EXAMPLE)

    def test_arguments_may_be_passed_by_name(self):
        seeker = Seeker(rules=(FRONT,), lot=first_lot((FRONT,)))
        self.assertEqual(seeker.would(item=1, answer=1), ((0, ((1, 0), (0, 0))),))
        self.assertIsNone(seeker.told(item=1, answer=1))
        self.assertEqual([seeker.left(goal=("case",)), seeker.next_item(goal=("case",)), seeker.mark()], [0, None, 0])
        self.assertIsNone(seeker.back(number=0))


class TestTold(Checks):
    def test_step_by_step(self):
        seeker = Seeker(THREE, first_lot(THREE))
        self.assertEqual([seeker.lot(), seeker.log(), seeker.marks()], [first_lot(THREE), (), []])
        self.assertEqual([seeker.left(("order",)), seeker.next_item(("order",))], [2, 0])
        self.assertIsNone(seeker.told(1, 2))
        self.assertEqual(seeker.lot(), ((0, ((1, 0, 2), (0, 0, 0))), (0, ((1, 2, 0), (0, 0, 0)))))
        self.assertEqual(strictly(seeker.log()), strictly(((1, 2),)))
        self.assertEqual([seeker.left(("order",)), seeker.next_item(("order",))], [1, 0])
        self.assertIsNone(seeker.told(2, 2))
        self.assertEqual([seeker.lot(), seeker.log()], [((0, ((2, 1, 0), (0, 0, 0))),), ((1, 2), (2, 2))])
        self.assertEqual([seeker.left(("order",)), seeker.next_item(("order",))], [0, None])
        self.assertEqual([seeker.left(("front", 0)), seeker.next_item(("front", 0))], [1, 0])

    def test_drawn_histories_by_the_words(self):
        draw = Draw(17)
        for rules, lot, goal in drawn_searches()[:120]:
            seeker, now, log = Seeker(rules, lot), lot, ()
            for item in draw.asks(rules[0][0], 5):
                parts = words.lots_behind(rules, now, item)
                answer = draw.one(sorted(parts))
                self.assertEqual(seeker.would(item, answer), parts[answer])
                self.assertEqual([seeker.lot(), seeker.log()], [now, log])
                self.assertIsNone(seeker.told(item, answer))
                now, log = parts[answer], log + ((item, answer),)
                self.assertEqual(strictly([seeker.lot(), seeker.log()]), strictly([now, log]))
                self.assertEqual(seeker.left(goal), words.least_height(rules, now, goal))
                self.assertEqual(seeker.next_item(goal), words.next_item(rules, now, goal))

    def test_the_lot_has_just_the_cases_to_which_those_that_fit_turned(self):
        draw = Draw(171)
        for rules, lot, _ in drawn_searches()[:120]:
            seeker, case = Seeker(rules, lot), draw.one(lot)
            first = case
            for item in draw.asks(rules[0][0], 8):
                depth, case = words.ask_case(rules, case, item)
                seeker.told(item, depth)
            asks = [item for item, _ in seeker.log()]
            fits = fitting(rules, lot, seeker.log())
            turned = {(number, words.run(rules[number], one, asks)[1]) for number, one in fits}
            self.assertEqual(seeker.lot(), tuple(sorted(turned)))
            self.assertIn(first, fits)
            self.assertIn(case, seeker.lot())

    def test_no_answer(self):
        for number, value in enumerate(odd_values() + [2, 3, 4, "1", 1000, [1], (1,), nested(90, list)]):
            with self.subTest(number=number):
                seeker = Seeker((STILL,), first_lot((STILL,)))
                seeker.told(1, 1)
                seeker.mark()
                before = seen(seeker)
                for call in (seeker.told, seeker.would):
                    for item in (0, 1):
                        self.assertIs(self.check_raises(NoAnswer, call, item, value).answer, value)
                    self.assertEqual(self.check_raises(NoAnswer, call, 1, 0).answer, 0)
                    self.check_raises(NoAnswer, call, 0, 1)
                self.assertEqual(seen(seeker), before)

    def test_no_item_comes_first(self):
        seeker = Seeker(RULES, LOT)
        before = seen(seeker)
        for number, item in enumerate(ARGUMENTS["item"][1] + [2, -1]):
            with self.subTest(number=number):
                for answer in (0, 1, None, True, item):
                    self.check_raises(NoItem, seeker.told, item, answer)
                    self.check_raises(NoItem, seeker.would, item, answer)
                self.assertEqual(seen(seeker), before)

    def test_many_answers(self):
        seeker, both = Seeker((FRONT,), first_lot((FRONT,))), ((1, 1), (0, 1))
        for _ in range(2000):
            for item, answer in both:
                seeker.told(item, answer)
        self.assertEqual([seeker.log(), len(seeker.lot())], [both * 2000, 1])

    def test_wrong_arguments(self):
        self.check_arguments(Seeker, "rules", "lot")


class TestWould(Checks):
    def test_the_seeker_stays_as_it_is(self):
        for rules, lot, _ in drawn_searches()[:40]:
            seeker = Seeker(rules, lot)
            before = strictly([seeker.lot(), seeker.log(), seeker.marks()])
            for item in range(rules[0][0]):
                for answer in answers(rules, lot, item):
                    self.assertEqual(seeker.would(item, answer), behind(rules, lot, item, answer))
                    self.assertEqual(strictly([seeker.lot(), seeker.log(), seeker.marks()]), before)


class TestLeftAndNextItem(Checks):
    def test_by_the_words(self):
        for rules, lot, goal in with_tree():
            seeker = Seeker(rules, lot)
            self.assertEqual(seeker.left(goal), words.least_height(rules, lot, goal))
            self.assertEqual(strictly(seeker.next_item(goal)), strictly(words.next_item(rules, lot, goal)))
        items = {Seeker(rules, lot).next_item(goal) for rules, lot, goal in with_tree()}
        self.assertLessEqual({None, 0, 1, 2, 3}, items)

    def test_none_where_there_is_no_tree(self):
        for rules, lot, goal in without_tree():
            self.assertEqual([Seeker(rules, lot).left(goal), Seeker(rules, lot).next_item(goal)], [None, None])

    def test_none_where_the_lot_reaches_the_goal(self):
        for rules, lot, goal in with_tree():
            self.assertIs(Seeker(rules, lot).next_item(goal) is None, words.reaches(lot, goal))

    def test_following_the_next_item_leads_to_the_goal(self):
        for rules, lot, goal in with_tree():
            for number, standing in lot:
                seeker, case = Seeker(rules, lot), (number, standing)
                most = seeker.left(goal)
                while seeker.next_item(goal) is not None:
                    item, left = seeker.next_item(goal), seeker.left(goal)
                    depth, case = words.ask_case(rules, case, item)
                    seeker.told(item, depth)
                    self.assertLess(seeker.left(goal), left)
                self.assertEqual(seeker.left(goal), 0)
                self.assertLessEqual(len(seeker.log()), most)
                self.assertIs(words.reaches((case,), goal), True)

    def test_no_goal(self):
        seeker = Seeker(RULES, LOT)
        for number, goal in enumerate(ARGUMENTS["goal"][1]):
            with self.subTest(number=number):
                self.check_raises(NoGoal, seeker.left, goal)
                self.check_raises(NoGoal, seeker.next_item, goal)

    def test_too_many_by_the_lots_that_come_of_the_lot_now(self):
        seeker = Seeker(RULES_OF_601, LOT_OF_601)
        for goal in (("order",), ("case",), ("rule",), ("front", 3), ("sorted", (0, 2, 1, 3))):
            self.assertEqual(self.check_raises(TooMany, seeker.left, goal).limit, 600)
            self.assertEqual(self.check_raises(TooMany, seeker.next_item, goal).limit, 600)
        self.check_raises(NoGoal, seeker.left, ("front", 4))
        self.check_raises(NoGoal, seeker.next_item, ("front", 4))
        few = Seeker(RULES_OF_600, LOT_OF_600)
        self.assertEqual([few.left(("rule",)), few.next_item(("rule",))], [0, None])
        # Behind some answers fewer lots come: then the seeker of the greater lot tells, too.
        item, answer = [(item, answer) for item in range(4) for answer in answers(RULES_OF_601, LOT_OF_601, item)
                        if words.coming(RULES_OF_601, behind(RULES_OF_601, LOT_OF_601, item, answer)) is not None][0]
        seeker.mark()
        seeker.told(item, answer)
        self.assertEqual(seeker.left(("case",)), least_asks(RULES_OF_601, seeker.lot(), ("case",)))
        self.assertEqual(seeker.next_item(("rule",)), None)
        seeker.back(0)
        self.check_raises(TooMany, seeker.left, ("rule",))

    def test_nothing_changes(self):
        seeker = Seeker(RULES, LOT)
        before = strictly([seeker.lot(), seeker.log(), seeker.marks()])
        for goal in GOALS:
            first = [seeker.left(goal), seeker.next_item(goal)]
            self.assertEqual([seeker.left(goal), seeker.next_item(goal)], first)
            self.assertEqual(strictly([seeker.lot(), seeker.log(), seeker.marks()]), before)


class TestMarks(Checks):
    def test_numbers_are_given_again_behind_a_return(self):
        seeker = Seeker(THREE, first_lot(THREE))
        self.assertEqual([seeker.mark(), seeker.told(1, 2), seeker.mark(), seeker.told(2, 2), seeker.mark()], [
            0, None, 1, None, 2])
        self.assertEqual(seeker.marks(), [0, 1, 2])
        self.assertIsNone(seeker.back(1))
        self.assertEqual([seeker.marks(), seeker.log(), len(seeker.lot())], [[0, 1], ((1, 2),), 2])
        seeker.told(0, 2)
        self.assertEqual([seeker.mark(), seeker.marks()], [2, [0, 1, 2]])
        seeker.back(0)
        self.assertEqual([seeker.marks(), seeker.log(), seeker.lot()], [[0], (), first_lot(THREE)])
        self.assertEqual([seeker.mark(), seeker.mark()], [1, 2])

    def test_going_back_twice_to_one_mark(self):
        seeker = Seeker(THREE, first_lot(THREE))
        seeker.told(0, 1)
        lot, log = seeker.lot(), seeker.log()
        seeker.mark()
        for item, answer in ((2, 2), (1, 2), (2, 2)):
            if answer in answers(THREE, seeker.lot(), item):
                seeker.told(item, answer)
                self.assertNotEqual(seeker.log(), log)
            self.assertIsNone(seeker.back(0))
            self.assertEqual([seeker.lot(), seeker.log(), seeker.marks()], [lot, log, [0]])
        seeker.back(0)
        self.assertEqual([seeker.lot(), seeker.log(), seeker.marks()], [lot, log, [0]])

    def test_at_most_6(self):
        seeker = Seeker((FRONT,), first_lot((FRONT,)))
        self.assertEqual([seeker.mark() for _ in range(6)], [0, 1, 2, 3, 4, 5])
        before = seen(seeker)
        for _ in range(2):
            self.assertEqual(self.check_raises(TooMany, seeker.mark).limit, 6)
        self.assertEqual([seen(seeker), seeker.marks()], [before, [0, 1, 2, 3, 4, 5]])
        seeker.back(5)
        self.check_raises(TooMany, seeker.mark)
        seeker.back(4)
        self.assertEqual(seeker.mark(), 5)
        self.check_raises(TooMany, seeker.mark)

    def test_no_mark(self):
        values = odd_values() + [0.5, "0", nested(90, list), 6, 7, (0,), [0]]
        for many in (0, 1, 2):
            seeker = Seeker(THREE, first_lot(THREE))
            for number in range(many):
                seeker.mark()
                seeker.told(2, [2, 0][number])
            before = seen(seeker)
            for number, value in enumerate(values + [many, many + 1, -1, True, False, None, []]):
                with self.subTest(many=many, number=number):
                    self.assertIs(self.check_raises(NoMark, seeker.back, value).number, value)
                    self.assertEqual(seen(seeker), before)

    def test_the_number_of_a_removed_mark(self):
        seeker = Seeker(THREE, first_lot(THREE))
        for _ in range(3):
            seeker.mark()
        seeker.back(0)
        self.assertEqual(self.check_raises(NoMark, seeker.back, 1).number, 1)
        self.assertEqual(self.check_raises(NoMark, seeker.back, 2).number, 2)
        seeker.mark()
        self.assertIsNone(seeker.back(1))
        self.check_raises(NoMark, seeker.back, 2)

    def test_drawn_histories_with_marks(self):
        draw = Draw(172)
        for rules, lot, _ in drawn_searches()[:80]:
            seeker, now, log, marks = Seeker(rules, lot), lot, (), []
            for _ in range(30):
                step = draw.below(4)
                if step == 0 and len(marks) < 6:
                    self.assertEqual(seeker.mark(), len(marks))
                    marks.append((now, log))
                elif step == 1 and marks:
                    number = draw.below(len(marks))
                    seeker.back(number)
                    now, log = marks[number]
                    del marks[number + 1:]
                else:
                    item = draw.below(rules[0][0])
                    parts = words.lots_behind(rules, now, item)
                    answer = draw.one(sorted(parts))
                    seeker.told(item, answer)
                    now, log = parts[answer], log + ((item, answer),)
                self.assertEqual(strictly([seeker.lot(), seeker.log(), seeker.marks()]), strictly(
                    [now, log, list(range(len(marks)))]))

    def test_marks_tells_a_new_list_each_time(self):
        seeker = Seeker(RULES, LOT)
        self.check_new_list(seeker.marks)
        seeker.mark()
        self.check_new_list(seeker.marks)
        told = seeker.marks()
        told.clear()
        self.assertEqual([seeker.marks(), seeker.mark()], [[0], 1])


class TestSeekers(Checks):
    def test_two_side_by_side_do_not_touch_each_other(self):
        first, second = Seeker(THREE, first_lot(THREE)), Seeker(THREE, first_lot(THREE))
        untouched = seen(second)
        first.mark()
        first.told(2, 1)
        first.mark()
        self.assertEqual(seen(second), untouched)
        self.check_raises(NoMark, second.back, 0)
        second.told(0, 0)
        second.mark()
        held = seen(first)
        second.told(1, 1)
        second.back(0)
        self.assertEqual([seen(first), first.log(), second.log()], [held, ((2, 1),), ((0, 0),)])
        first.back(0)
        self.assertEqual([seen(first) == seen(second), second.log(), second.marks()], [False, ((0, 0),), [0]])

    def test_nothing_that_is_passed_is_changed(self):
        self.assertTrue(unchanged_by(Seeker, RULES, LOT))
        self.assertTrue(unchanged_by(Seeker, list(RULES), [list(case) for case in LOT]))
        self.assertTrue(unchanged_by(Seeker, RULES, [list(case) for case in LOT]))
        seeker = Seeker((SECOND,), first_lot((SECOND,)))
        for call in (seeker.told, seeker.would):
            self.assertTrue(unchanged_by(call, 0, [1]))
            self.assertTrue(unchanged_by(call, [0], 1))
        for call in (seeker.left, seeker.next_item, seeker.back):
            self.assertTrue(unchanged_by(call, ["order", [0]]))
