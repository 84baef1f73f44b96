"""Points 2, 3 and 20, and selfsort/crowd.py."""

from selfsort.blind import behind_blind
from selfsort.crowd import Crowd
from selfsort.lots import behind, first_lot
from selfsort.rules import named_rule
from selfsort.wrongs import NoAnswer, NoItem, NoLot, NoNumber, NoRules, NoSeeker, TooMany
from tests import words
from tests.checks import ARGUMENTS, FRONT, LOT, RULES, SECOND, STILL, Checks
from tests.samples import Draw, nested, odd_values, strictly, unchanged_by
from tests.searches import drawn_searches

EXAMPLE = """
>>> from selfsort.rules import named_rule
>>> from selfsort.lots import first_lot
>>> from selfsort.crowd import Crowd
>>> rules = (named_rule(2, 'front'),)
>>> crowd = Crowd(rules, first_lot(rules), 2)
>>> [crowd.told(0, 1, 1), len(crowd.lot(0)), len(crowd.lot(1)), crowd.shared()]
[None, 1, 2, [(0, ((1, 0), (0, 0)))]]
>>> [crowd.called(0), crowd.lot(1), crowd.lot(0) == crowd.lot(1)]
[None, ((0, ((0, 1), (0, 0))),), True]
"""
NO_NUMBERS = [-1, 0, 1, 5, True, False, None, "2", (2,), [2], (), 10 ** 19999, -(10 ** 19999), nested(60, list)]
BOTH = first_lot((FRONT,))
# Of this rule of four items an ask that is only heard makes of 24 cases more than 48.
MANY = (named_rule(4, "second"),)


def lots_of(crowd, seekers):
    """The lots of all seekers."""
    return [crowd.lot(seeker) for seeker in range(seekers)]


def heard(rules, lot):
    """Point 20: the cases to which the lot's cases turn if any of the items is asked for."""
    return tuple(sorted({words.ask_case(rules, case, item)[1] for case in lot for item in range(rules[0][0])}))


def lots_behind_told(rules, lots, seeker, item, answer):
    """Point 20: the lots of all seekers behind what one of them asked and heard, or None if one is refused."""
    found = []
    for number, lot in enumerate(lots):
        if number == seeker:
            found.append(words.lots_behind(rules, lot, item)[answer])
        else:
            found.append(heard(rules, lot))
    return found if all(len(lot) <= 48 for lot in found) else None


def shared(lots):
    """The cases that are in all lots, ascending."""
    return sorted(set(lots[0]).intersection(*lots[1:]))


class TestExamples(Checks):
    def test_the_example_of_the_interface(self):
        self.check_examples(EXAMPLE)

    def test_arguments_may_be_passed_by_name(self):
        crowd = Crowd(rules=(FRONT,), lot=BOTH, seekers=3)
        self.assertIsNone(crowd.told(seeker=2, item=1, answer=0))
        self.assertIsNone(crowd.called(item=1))
        self.assertEqual(crowd.lot(seeker=0), ((0, ((1, 0), (0, 0))),))


class TestCrowd(Checks):
    def test_crowds_of_2_to_4(self):
        for seekers in (2, 3, 4):
            crowd = Crowd(RULES, LOT, seekers)
            self.assertEqual(lots_of(crowd, seekers), [LOT] * seekers)
            self.check_raises(NoSeeker, crowd.lot, seekers)
            self.assertEqual(crowd.shared(), list(LOT))

    def test_step_by_step(self):
        rules = (named_rule(3, "front"),)
        crowd = Crowd(rules, first_lot(rules), 3)
        self.assertIsNone(crowd.told(1, 2, 2))
        known = behind(rules, first_lot(rules), 2, 2)
        self.assertEqual(lots_of(crowd, 3), [first_lot(rules), known, first_lot(rules)])
        self.assertEqual(crowd.shared(), list(known))
        self.assertIsNone(crowd.called(0))
        self.assertEqual(lots_of(crowd, 3), [
            behind_blind(rules, first_lot(rules), 0), behind_blind(rules, known, 0),
            behind_blind(rules, first_lot(rules), 0)])
        self.assertEqual(crowd.shared(), [(0, ((0, 2, 1), (0, 0, 0)))])
        self.assertIsNone(crowd.told(2, 1, 2))
        self.assertEqual(crowd.lot(2), ((0, ((1, 0, 2), (0, 0, 0))),))
        self.assertEqual(crowd.lot(1), tuple(sorted([
            (0, ((0, 2, 1), (0, 0, 0))), (0, ((1, 0, 2), (0, 0, 0))), (0, ((2, 0, 1), (0, 0, 0)))])))
        self.assertEqual(crowd.shared(), [(0, ((1, 0, 2), (0, 0, 0)))])

    def test_the_one_that_asks_may_become_sure_while_others_know_less(self):
        crowd = Crowd((FRONT,), BOTH[:1], 2)
        crowd.told(0, 1, 1)
        self.assertEqual(lots_of(crowd, 2), [BOTH[1:], BOTH])
        crowd.called(1)
        self.assertEqual(lots_of(crowd, 2), [BOTH[1:], BOTH[1:]])

    def test_drawn_histories_by_the_words(self):
        draw, refused = Draw(20), 0
        for rules, lot, _ in drawn_searches():
            seekers = 2 + draw.below(3)
            crowd, lots = Crowd(rules, lot, seekers), [lot] * seekers
            for _ in range(6):
                item = draw.below(rules[0][0])
                if draw.below(3) == 0:
                    self.assertIsNone(crowd.called(item))
                    lots = [words.lot_behind_blind(rules, one, item) for one in lots]
                else:
                    seeker = draw.below(seekers)
                    answer = draw.one(sorted(words.lots_behind(rules, lots[seeker], item)))
                    wanted = lots_behind_told(rules, lots, seeker, item, answer)
                    if wanted is None:
                        refused += 1
                        self.assertEqual(self.check_raises(TooMany, crowd.told, seeker, item, answer).limit, 48)
                    else:
                        self.assertIsNone(crowd.told(seeker, item, answer))
                        lots = wanted
                self.assertEqual(strictly(lots_of(crowd, seekers)), strictly(lots))
                self.assertEqual(strictly(crowd.shared()), strictly(shared(lots)))
        self.assertGreater(refused, 5)

    def test_the_case_that_holds_is_in_each_lot(self):
        draw = Draw(201)
        for rules, lot, _ in drawn_searches():
            crowd, case = Crowd(rules, lot, 3), draw.one(lot)
            for item in draw.asks(rules[0][0], 5):
                depth, turned = words.ask_case(rules, case, item)
                try:
                    if draw.below(3) == 0:
                        crowd.called(item)
                    else:
                        crowd.told(draw.below(3), item, depth)
                    case = turned
                except TooMany:
                    pass
                self.assertTrue(all(case in one for one in lots_of(crowd, 3)))
                self.assertIn(case, crowd.shared())

    def test_shared_may_be_empty(self):
        # What the seekers tell does not fit any case: the list was not asked as they say.
        crowd = Crowd((STILL,), first_lot((STILL,)), 2)
        crowd.told(0, 0, 0)
        crowd.told(1, 0, 1)
        self.assertEqual([lots_of(crowd, 2), crowd.shared()], [[first_lot((STILL,))[:1], first_lot((STILL,))[1:]], []])

    def test_shared_tells_a_new_list_each_time(self):
        crowd = Crowd(RULES, LOT, 2)
        self.check_new_list(crowd.shared)
        crowd.told(0, 1, 0)
        self.check_new_list(crowd.shared)

    def test_two_side_by_side_do_not_touch_each_other(self):
        first, second = Crowd((FRONT,), BOTH, 2), Crowd((FRONT,), BOTH, 2)
        first.told(0, 1, 1)
        self.assertEqual([lots_of(second, 2), second.shared()], [[BOTH, BOTH], list(BOTH)])
        second.called(0)
        self.assertEqual(lots_of(first, 2), [BOTH[1:], BOTH])


class TestErrors(Checks):
    def test_no_number(self):
        for number, seekers in enumerate(NO_NUMBERS):
            with self.subTest(number=number):
                self.check_raises(NoNumber, Crowd, RULES, LOT, seekers)
                self.check_raises(NoLot, Crowd, RULES, (), seekers)
                self.check_raises(NoRules, Crowd, None, (), seekers)

    def test_wrong_arguments(self):
        self.check_arguments(lambda rules, lot: Crowd(rules, lot, 2), "rules", "lot")

    def told_of(self, crowd):
        """All that a crowd of two tells, as a text."""
        return strictly([lots_of(crowd, 2), crowd.shared()])

    def test_no_seeker(self):
        crowd = Crowd(RULES, LOT, 2)
        before = self.told_of(crowd)
        for number, seeker in enumerate(odd_values() + [2, 3, -1, True, False, None, [0], "0", nested(90, list)]):
            with self.subTest(number=number):
                self.check_raises(NoSeeker, crowd.lot, seeker)
                for item, answer in ((0, 0), (2, 0), (0, None), (None, [0])):
                    self.check_raises(NoSeeker, crowd.told, seeker, item, answer)
                self.assertEqual(self.told_of(crowd), before)

    def test_no_item(self):
        crowd = Crowd(RULES, LOT, 2)
        before = self.told_of(crowd)
        for number, item in enumerate(ARGUMENTS["item"][1] + [2, -1]):
            with self.subTest(number=number):
                self.check_raises(NoItem, crowd.called, item)
                for answer in (0, 1, 2, True, None, [0]):
                    self.check_raises(NoItem, crowd.told, 1, item, answer)
                self.assertEqual(self.told_of(crowd), before)

    def test_no_answer(self):
        for number, value in enumerate(odd_values() + [2, 3, 4, [0], (0,), "0", nested(90, list)]):
            with self.subTest(number=number):
                crowd = Crowd((STILL,), first_lot((STILL,)), 2)
                crowd.told(0, 1, 1)
                before = self.told_of(crowd)
                for seeker, item in ((0, 0), (0, 1), (1, 0), (1, 1)):
                    self.assertIs(self.check_raises(NoAnswer, crowd.told, seeker, item, value).answer, value)
                self.assertEqual(self.told_of(crowd), before)

    def test_the_answers_are_those_of_the_lot_of_this_seeker(self):
        crowd = Crowd((STILL,), first_lot((STILL,)), 2)
        crowd.told(0, 1, 1)
        self.assertEqual(self.check_raises(NoAnswer, crowd.told, 0, 1, 0).answer, 0)
        self.assertIsNone(crowd.told(1, 1, 0))
        self.check_raises(NoAnswer, crowd.told, 1, 1, 1)

    def test_too_many(self):
        lot = first_lot(MANY)
        self.assertGreater(len(heard(MANY, lot)), 48)
        for seekers in (2, 3, 4):
            crowd = Crowd(MANY, lot, seekers)
            for _ in range(2):
                for seeker in range(seekers):
                    self.assertEqual(self.check_raises(TooMany, crowd.told, seeker, 3, 0).limit, 48)
                    self.assertEqual([lots_of(crowd, seekers), crowd.shared()], [[lot] * seekers, list(lot)])
            self.check_raises(NoAnswer, crowd.told, 0, 3, 4)
            self.assertIsNone(crowd.called(3))
            self.assertEqual(len(crowd.lot(0)), 24)

    def test_too_many_for_one_of_them_only(self):
        lot = tuple(words.every_case(MANY)[::32])
        crowd = Crowd(MANY, lot, 3)
        depth = sorted(words.lots_behind(MANY, lot, 0))[-1]
        crowd.told(0, 0, depth)
        crowd.called(0)
        lots = lots_of(crowd, 3)
        self.assertLessEqual(len(heard(MANY, lots[0])), 48)
        self.assertGreater(len(heard(MANY, lots[1])), 48)
        for seeker in (0, 1, 2):
            answer = sorted(words.lots_behind(MANY, lots[seeker], 1))[0]
            self.assertEqual(self.check_raises(TooMany, crowd.told, seeker, 1, answer).limit, 48)
            self.assertEqual(lots_of(crowd, 3), lots)

    def test_48_cases_are_not_too_many(self):
        # All 48 standings of this rule turn to standings of it, whatever is asked for.
        rules = (named_rule(3, "second"),)
        crowd = Crowd(rules, tuple(words.every_case(rules)), 2)
        self.assertIsNone(crowd.told(0, 1, 1))
        self.assertEqual([len(lot) for lot in lots_of(crowd, 2)], [16, 48])

    def test_49_cases_are(self):
        draw, sizes = Draw(203), {}
        while len(sizes) < 2:
            lot = tuple(sorted(draw.some(words.every_case(MANY), 14)))
            many = len(heard(MANY, lot))
            if many in (48, 49) and many not in sizes:
                sizes[many] = True
                crowd = Crowd(MANY, lot, 2)
                answer = sorted(words.lots_behind(MANY, lot, 0))[0]
                if many == 48:
                    self.assertIsNone(crowd.told(1, 0, answer))
                    self.assertEqual(len(crowd.lot(0)), 48)
                else:
                    self.check_raises(TooMany, crowd.told, 1, 0, answer)
                    self.assertEqual(lots_of(crowd, 2), [lot, lot])

    def test_nothing_that_is_passed_is_changed(self):
        self.assertTrue(unchanged_by(Crowd, RULES, LOT, 2))
        self.assertTrue(unchanged_by(Crowd, list(RULES), [list(case) for case in LOT], [2]))
        crowd = Crowd((SECOND,), first_lot((SECOND,)), 2)
        self.assertTrue(unchanged_by(crowd.told, 0, 1, [0]))
        self.assertTrue(unchanged_by(crowd.told, [0], [1], [0]))
        self.assertTrue(unchanged_by(crowd.called, [0]))
        self.assertTrue(unchanged_by(crowd.lot, [0]))
