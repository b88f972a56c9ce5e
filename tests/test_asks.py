import unittest
from itertools import product

from by_moments import (
    Case, FAR, From, HUGE, LAST, keys_read, line_read, long_rows, sheet_told, story_read, worth_read,
)
from twotimes.asks import all_at, story, when, who
from twotimes.errors import NoKnowing, NoName, NoStretch
from twotimes.sheets import Sheet
from twotimes.tiles import Tiled

KINDS = (Sheet, Tiled)
NO_NAMES = ("", "abcdefghi", "Ada", "a1", "a b", "a\n", None, 5, HUGE, True, [], ("a",))
NO_MOMENTS = (-1, -HUGE, LAST + 1, HUGE)
ROW = [
    ("put", "bob", "red", 10, 20),
    ("put", "ada", "red", 10, 30),
    ("put", "ada", "blue", 15, 17),
    ("put", "bob", "red", 25, None),
    ("clear", "ada", 12, 18),
    ("put", "cy", "blue", 0, 11),
    ("put", "ada", "blue", 12, 18),
    ("put", "ada", "blue", 16, None),
    ("put", "bb", "red", LAST, None),
]


class Asks(Case):
    def check(self, wanted, ask, row=ROW):
        for kind in KINDS:
            self.assertEqual(ask(sheet_told(kind, row)), wanted)

    def check_sheets_refuse(self, refusal, ask, row=ROW):
        for kind in KINDS:
            sheet = sheet_told(kind, row)
            self.check_refused(refusal, lambda: ask(sheet))
            self.assertEqual(sheet.knowings(), len(row))


class Story(Asks):
    def test_nothing(self):
        self.check([], lambda sheet: story(sheet, "ada", 5), [])
        self.check([], lambda sheet: story(sheet, "never", 5))
        self.check([], lambda sheet: story(sheet, "ada", 9))
        self.check([], lambda sheet: story(sheet, "bob", 20))

    def test_none_between(self):
        self.check([(2, 3, "red"), (3, 5, "blue"), (7, None, "blue")], lambda sheet: story(sheet, "ada", 16))
        self.check([(2, 5, "red"), (7, None, "blue")], lambda sheet: story(sheet, "ada", 12))

    def test_the_same_worth_told_again_is_joined(self):
        row = [("put", "ada", "a", 0, 5), ("put", "ada", "a", 0, 9), ("put", "bob", "b", 0, 9), ("put", "ada", "a", 3, 4)]
        self.check([(1, None, "a")], lambda sheet: story(sheet, "ada", 3), row)
        self.check([(2, None, "a")], lambda sheet: story(sheet, "ada", 7), row)
        self.check([(1, 5, "a")], lambda sheet: story(sheet, "ada", 3), row + [("clear", "ada", 3, 4)])

    def test_the_same_worth_again_behind_another_and_behind_none(self):
        row = [("put", "ada", "a", 0, 5), ("put", "ada", "b", 0, 5), ("put", "ada", "a", 0, 5), ("clear", "ada", 0, 5)]
        row += [("put", "ada", "a", 0, 5)]
        self.check([(1, 2, "a"), (2, 3, "b"), (3, 4, "a"), (5, None, "a")], lambda sheet: story(sheet, "ada", 0), row)

    def test_up_to_the_last_knowing(self):
        row = [("put", "ada", "a", 0, 5), ("put", "ada", "b", 0, 5)]
        self.check([(1, None, "a")], lambda sheet: story(sheet, "ada", 4), row[:1])
        self.check([(1, 2, "a"), (2, None, "b")], lambda sheet: story(sheet, "ada", 4), row)
        self.check([(1, 2, "a"), (2, 3, "b")], lambda sheet: story(sheet, "ada", 4), row + [("clear", "ada", 4, 5)])
        self.check([(1, 2, "a"), (2, None, "b")], lambda sheet: story(sheet, "ada", 3), row + [("clear", "ada", 4, 5)])

    def test_at_the_bounds_of_moments(self):
        self.check([(9, None, "red")], lambda sheet: story(sheet, "bb", LAST))
        self.check([], lambda sheet: story(sheet, "bb", LAST - 1))
        self.check([(6, None, "blue")], lambda sheet: story(sheet, "cy", 0))
        self.check([(8, None, "blue")], lambda sheet: story(sheet, "ada", LAST))

    def test_from_a_later_first_knowing_on(self):
        for kind in KINDS:
            sheet = sheet_told(kind, ROW)
            self.assertEqual(story(From(sheet, 4), "ada", 16), [(4, 5, "blue"), (7, None, "blue")])
            self.assertEqual(story(From(sheet, 9), "ada", 16), [(9, None, "blue")])
            self.assertEqual(story(From(sheet, 5), "ada", 12), [(7, None, "blue")])

    def test_refusals(self):
        for row, name in product(([], ROW), NO_NAMES):
            for moment in (0, LAST) + NO_MOMENTS:
                self.check_sheets_refuse(NoName, lambda sheet: story(sheet, name, moment), row)
        for row, key, moment in product(([], ROW), ("ada", "never"), NO_MOMENTS):
            self.check_sheets_refuse(NoStretch, lambda sheet: story(sheet, key, moment), row)


class AllAt(Asks):
    def test_nothing(self):
        self.check([], lambda sheet: all_at(sheet, 5, 0), [])
        self.check([], lambda sheet: all_at(sheet, 15, 0))
        self.check([], lambda sheet: all_at(sheet, 9, 5))

    def test_elder_knowings_and_order(self):
        self.check([("bob", "red")], lambda sheet: all_at(sheet, 15, 1))
        self.check([("ada", "red"), ("bob", "red")], lambda sheet: all_at(sheet, 15, 2))
        self.check([("ada", "blue"), ("bob", "red")], lambda sheet: all_at(sheet, 15, 3))
        self.check([("bob", "red")], lambda sheet: all_at(sheet, 15, 5))
        self.check([("ada", "red"), ("bob", "red"), ("cy", "blue")], lambda sheet: all_at(sheet, 10, 9))

    def test_at_the_bounds_of_moments(self):
        self.check([("cy", "blue")], lambda sheet: all_at(sheet, 0, 9))
        self.check([("ada", "blue"), ("bb", "red"), ("bob", "red")], lambda sheet: all_at(sheet, LAST, 9))
        self.check([("ada", "blue"), ("bob", "red")], lambda sheet: all_at(sheet, LAST - 1, 9))

    def test_refusals(self):
        for row, moment in product(([], ROW), (0, LAST) + NO_MOMENTS):
            for knowing in (-1, -HUGE, len(row) + 1, HUGE):
                self.check_sheets_refuse(NoKnowing, lambda sheet: all_at(sheet, moment, knowing), row)
        for row, moment in product(([], ROW), NO_MOMENTS):
            # At 0 there is no key at all.
            for knowing in (0, len(row)):
                self.check_sheets_refuse(NoStretch, lambda sheet: all_at(sheet, moment, knowing), row)


class When(Asks):
    def test_nothing(self):
        self.check([], lambda sheet: when(sheet, "ada", "red", 0), [])
        self.check([], lambda sheet: when(sheet, "ada", "red", 1))
        self.check([], lambda sheet: when(sheet, "ada", "green", 9))
        self.check([], lambda sheet: when(sheet, "never", "red", 9))

    def test_elder_knowings_and_order(self):
        self.check([(10, 30)], lambda sheet: when(sheet, "ada", "red", 2))
        self.check([(10, 15), (17, 30)], lambda sheet: when(sheet, "ada", "red", 4))
        self.check([(15, 17)], lambda sheet: when(sheet, "ada", "blue", 4))
        self.check([(10, 12), (18, 30)], lambda sheet: when(sheet, "ada", "red", 5))
        self.check([], lambda sheet: when(sheet, "ada", "blue", 5))
        self.check([(12, None)], lambda sheet: when(sheet, "ada", "blue", 8))
        self.check([(10, 20), (25, None)], lambda sheet: when(sheet, "bob", "red", 9))

    def test_stretches_are_tuples(self):
        self.check([tuple, tuple], lambda sheet: [type(piece) for piece in when(sheet, "bob", "red", 9)])

    def test_refusals(self):
        names = ("ada",) + NO_NAMES
        for row, key, worth in product(([], ROW), names, names):
            for knowing in (-1, -HUGE, len(row) + 1, HUGE):
                self.check_sheets_refuse(NoKnowing, lambda sheet: when(sheet, key, worth, knowing), row)
            if (key, worth) != ("ada", "ada"):
                self.check_sheets_refuse(NoName, lambda sheet: when(sheet, key, worth, len(row)), row)
                self.check_sheets_refuse(NoName, lambda sheet: when(sheet, key, worth, 0), row)


class Who(Asks):
    def test_nothing(self):
        self.check([], lambda sheet: who(sheet, "red", 0), [])
        self.check([], lambda sheet: who(sheet, "red", 0))
        self.check([], lambda sheet: who(sheet, "green", 9))
        self.check([], lambda sheet: who(sheet, "blue", 5))

    def test_elder_knowings_and_order(self):
        self.check([("ada", 10, 30), ("bob", 10, 20)], lambda sheet: who(sheet, "red", 2))
        wanted = [("ada", 10, 15), ("ada", 17, 30), ("bob", 10, 20), ("bob", 25, None)]
        self.check(wanted, lambda sheet: who(sheet, "red", 4))
        wanted = [("ada", 10, 12), ("bb", LAST, None), ("bob", 10, 20), ("bob", 25, None)]
        self.check(wanted, lambda sheet: who(sheet, "red", 9))
        self.check([("ada", 12, None), ("cy", 0, 11)], lambda sheet: who(sheet, "blue", 9))

    def test_refusals(self):
        for row, worth in product(([], ROW), ("red",) + NO_NAMES):
            for knowing in (-1, -HUGE, len(row) + 1, HUGE):
                self.check_sheets_refuse(NoKnowing, lambda sheet: who(sheet, worth, knowing), row)
        for row, worth in product(([], ROW), NO_NAMES):
            # At 0 there is no key at all.
            for knowing in (0, len(row)):
                self.check_sheets_refuse(NoName, lambda sheet: who(sheet, worth, knowing), row)


class ByMoments(Asks):
    def test_stories(self):
        for row in long_rows(6, 30, 8):
            for key, moment in product(("x", "y", "z"), tuple(range(10)) + FAR):
                self.check(story_read(row, key, moment), lambda sheet: story(sheet, key, moment), row)

    def test_all_when_who(self):
        for row in long_rows(3, 20, 8):
            for knowing in range(len(row) + 1):
                known = row[:knowing]
                keys = keys_read(known, 9)
                for moment in tuple(range(10)) + FAR:
                    pairs = [(key, worth_read(known, key, moment)) for key in keys]
                    wanted = [pair for pair in pairs if pair[1] is not None]
                    self.check(wanted, lambda sheet: all_at(sheet, moment, knowing), row)
                for worth in ("a", "b", "c"):
                    having = [(key,) + run for key in keys for run in line_read(known, key, 9) if run[2] == worth]
                    self.check([run[:3] for run in having], lambda sheet: who(sheet, worth, knowing), row)
                    for key in ("x", "y", "z"):
                        wanted = [run[1:3] for run in having if run[0] == key]
                        self.check(wanted, lambda sheet: when(sheet, key, worth, knowing), row)


class AskersOwn(Case):
    def calls(self, sheet):
        return [
            lambda: story(sheet, "ada", 16),
            lambda: all_at(sheet, 10, sheet.knowings()),
            lambda: when(sheet, "bob", "red", sheet.knowings()),
            lambda: who(sheet, "red", sheet.knowings()),
        ]

    def test_what_the_asker_does_changes_nothing(self):
        for kind in KINDS:
            sheet = sheet_told(kind, ROW)
            lines = [sheet.line_at("ada", knowing) for knowing in range(len(ROW) + 1)]
            for call in self.calls(sheet):
                self.check_own(call)
            self.assertEqual([sheet.line_at("ada", knowing) for knowing in range(len(ROW) + 1)], lines)
            self.assertEqual((sheet.knowings(), sheet.first()), (len(ROW), 0))

    def test_told_earlier_stay(self):
        for kind in KINDS:
            sheet = sheet_told(kind, ROW)
            told = [call() for call in self.calls(sheet)]
            wanted = [list(pieces) for pieces in told]
            for key in ("ada", "bob", "cy"):
                sheet.tell(("put", key, "green", 0, None))
            self.assertEqual(told, wanted)
            for call, pieces in zip(self.calls(sheet), wanted):
                self.assertNotEqual(call(), pieces)


if __name__ == "__main__":
    unittest.main()
