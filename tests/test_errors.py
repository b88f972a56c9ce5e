import copy
import unittest

from twotimes.errors import (
    Broken, Forgotten, NoFit, NoKnowing, NoLog, NoName, NoRow, NoSheet, NoStretch, TimesError,
)

PLAIN = (NoName, NoStretch, NoKnowing, Forgotten, NoSheet, NoFit, NoRow)
ALL = PLAIN + (Broken, NoLog)


def one_of_each():
    return [kind("words") for kind in PLAIN] + [Broken(2, 7, "ada"), NoLog(3)]


class Refusals(unittest.TestCase):
    def test_there_are_nine(self):
        self.assertEqual(len(set(ALL)), 9)

    def test_times_error_is_a_value_error(self):
        self.assertTrue(issubclass(TimesError, ValueError))
        with self.assertRaises(ValueError):
            raise TimesError("words")

    def test_each_is_taken_as_times_error_and_as_value_error(self):
        for error in one_of_each():
            for taken in (TimesError, ValueError, type(error)):
                with self.subTest(error=error, taken=taken), self.assertRaises(taken):
                    raise error

    def test_none_is_taken_as_another(self):
        for error in one_of_each():
            for kind in ALL:
                with self.subTest(error=error, kind=kind):
                    self.assertEqual(isinstance(error, kind), type(error) is kind)

    def test_plain_ones_can_be_made_of_nothing(self):
        for kind in PLAIN + (TimesError,):
            with self.subTest(kind=kind), self.assertRaises(kind):
                raise kind()


class Fields(unittest.TestCase):
    def test_broken(self):
        error = Broken(2, 7, "ada")
        self.assertEqual((error.rule, error.moment, error.key), (2, 7, "ada"))
        first = Broken(0, 0, "z")
        self.assertEqual((first.rule, first.moment, first.key), (0, 0, "z"))
        self.assertEqual((error.rule, error.moment, error.key), (2, 7, "ada"))

    def test_broken_by_names(self):
        error = Broken(key="ada", rule=2, moment=7)
        self.assertEqual((error.rule, error.moment, error.key), (2, 7, "ada"))

    def test_no_log(self):
        self.assertEqual(NoLog(3).line, 3)
        self.assertEqual(NoLog(0).line, 0)
        self.assertEqual(NoLog(line=5).line, 5)

    def test_made_of_all_fields(self):
        for make in (Broken, lambda: Broken(1), lambda: Broken(1, 2), NoLog):
            with self.assertRaises(TypeError):
                make()

    def test_copies_keep_the_fields(self):
        broken = copy.copy(Broken(2, 7, "ada"))
        self.assertEqual((broken.rule, broken.moment, broken.key), (2, 7, "ada"))
        self.assertEqual(copy.copy(NoLog(3)).line, 3)


if __name__ == "__main__":
    unittest.main()
