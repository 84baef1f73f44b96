"""Point 2 and selfsort/wrongs.py: the errors."""

import unittest

from selfsort import wrongs
from tests.samples import nested, odd_values

MADE_OF_A_TEXT = (
    "NoItems", "NoOrder", "NoItem", "NoPlace", "NoRule", "NoStanding", "NoAsks", "NoRules", "NoCase", "NoLot",
    "NoGoal", "NoLog", "NoNumber", "NoName", "NoRecord", "NoSeeker",
)
MADE_OF_A_VALUE = (("NoAnswer", "answer"), ("NoMark", "number"), ("TooMany", "limit"))


class TestWrongs(unittest.TestCase):
    def test_sort_error_is_right_under_value_error(self):
        self.assertEqual(wrongs.SortError.__bases__, (ValueError,))

    def test_all_others_are_right_under_sort_error(self):
        for name in MADE_OF_A_TEXT + tuple(name for name, _ in MADE_OF_A_VALUE):
            with self.subTest(name=name):
                self.assertEqual(getattr(wrongs, name).__bases__, (wrongs.SortError,))

    def test_those_made_of_a_text(self):
        for name in MADE_OF_A_TEXT + ("SortError",):
            with self.subTest(name=name):
                kind = getattr(wrongs, name)
                with self.assertRaises(kind) as caught:
                    raise kind("some text")
                self.assertIs(type(caught.exception), kind)
                self.assertEqual(str(caught.exception), "some text")

    def test_those_made_of_a_value_keep_the_very_value(self):
        values = odd_values() + [600, 48, 6, "front", [1, [2]], nested(90, list)]
        for name, field in MADE_OF_A_VALUE:
            for index, value in enumerate(values):
                with self.subTest(name=name, index=index):
                    error = getattr(wrongs, name)(value)
                    self.assertIs(getattr(error, field), value)

    def test_the_value_may_be_passed_by_name(self):
        value = [1]
        self.assertIs(wrongs.NoAnswer(answer=value).answer, value)
        self.assertIs(wrongs.NoMark(number=value).number, value)
        self.assertIs(wrongs.TooMany(limit=value).limit, value)

    def test_the_field_is_set_also_when_the_error_is_raised(self):
        for name, field in MADE_OF_A_VALUE:
            with self.subTest(name=name):
                value = [1, (2, "3")]
                with self.assertRaises(wrongs.SortError) as caught:
                    raise getattr(wrongs, name)(value)
                self.assertIs(getattr(caught.exception, field), value)

    def test_each_error_can_be_told_as_text_whatever_its_value_is(self):
        for name, _ in MADE_OF_A_VALUE:
            for index, value in enumerate(odd_values()):
                with self.subTest(name=name, index=index):
                    error = getattr(wrongs, name)(value)
                    self.assertIsInstance(str(error) + repr(error), str)

    def test_the_value_is_not_changed(self):
        value = [1, [2]]
        wrongs.NoAnswer(value)
        wrongs.NoMark(value)
        wrongs.TooMany(value)
        self.assertEqual(value, [1, [2]])


if __name__ == "__main__":
    unittest.main()
