import unittest
from itertools import product

from by_moments import (
    FAR, HUGE, LAST, NO_NAMES, NO_STRETCHES, Case, keys_read, line_read, long_rows, sheet_told, tellings_of, worth_read,
)
from twotimes.errors import NoKnowing, NoName, NoStretch
from twotimes.sheets import Sheet
from twotimes.tiles import Tiled

KINDS = (Sheet, Tiled)
ROW = [
    ("put", "ada", "red", 10, 20),
    ("put", "bob", "red", 0, None),
    ("put", "ada", "blue", 15, None),
    ("clear", "ada", 12, 17),
    ("put", "cy", "abcdefgh", LAST, None),
    ("clear", "bob", 0, None),
    ("put", "ada", "red", 12, 17),
    ("put", "abcdefgh", "z", LAST - 1, LAST),
    ("put", "bob", "blue", 3, 4),
]
ADA = (
    [],
    [(10, 20, "red")],
    [(10, 20, "red")],
    [(10, 15, "red"), (15, None, "blue")],
    [(10, 12, "red"), (17, None, "blue")],
    [(10, 12, "red"), (17, None, "blue")],
    [(10, 12, "red"), (17, None, "blue")],
    [(10, 17, "red"), (17, None, "blue")],
    [(10, 17, "red"), (17, None, "blue")],
    [(10, 17, "red"), (17, None, "blue")],
)
KEYS = (
    [], ["ada"], ["ada", "bob"], ["ada", "bob"], ["ada", "bob"], ["ada", "bob", "cy"], ["ada", "cy"], ["ada", "cy"],
    ["abcdefgh", "ada", "cy"], ["abcdefgh", "ada", "bob", "cy"],
)


def view(sheet):
    knowings = range(sheet.knowings() + 1)
    keys = ("ada", "bob", "cy", "abcdefgh", "never")
    return [(sheet.keys_at(knowing), [sheet.line_at(key, knowing) for key in keys]) for knowing in knowings]


class Telling(Case):
    def test_a_new_sheet(self):
        for kind in KINDS:
            sheet = kind()
            self.assertEqual((sheet.knowings(), sheet.first()), (0, 0))
            self.assertEqual(sheet.keys_at(0), [])
            self.assertEqual(sheet.line_at("ada", 0), [])
            self.assertIsNone(sheet.worth_at("ada", 0, 0))

    def test_the_new_knowing_of_each(self):
        for kind in KINDS:
            sheet = kind()
            for number, telling in enumerate(ROW):
                self.assertEqual(sheet.knowings(), number)
                self.assertEqual(sheet.tell(telling), number + 1)
                self.assertEqual(sheet.knowings(), number + 1)
                self.assertEqual(sheet.first(), 0)

    def test_tellings_that_change_nothing_count_too(self):
        for kind in KINDS:
            sheet = kind()
            told = [sheet.tell(("clear", "ada", 0, None)), sheet.tell(("put", "ada", "a", 0, 5))]
            told += [sheet.tell(("put", "ada", "a", 0, 5)), sheet.tell(("put", "ada", "a", 2, 3))]
            self.assertEqual(told, [1, 2, 3, 4])
            self.assertEqual([sheet.line_at("ada", knowing) for knowing in (0, 1)], [[], []])
            self.assertEqual([sheet.line_at("ada", knowing) for knowing in (2, 3, 4)], [[(0, 5, "a")]] * 3)

    def test_stretches_at_all_bounds(self):
        for kind in KINDS:
            for begin, end in ((0, 1), (0, None), (0, LAST), (5, 300), (LAST - 1, LAST), (LAST, None), (LAST - 1, None)):
                sheet = sheet_told(kind, [("put", "ada", "red", begin, end)])
                self.assertEqual(sheet.line_at("ada", 1), [(begin, end, "red")])
                self.assertEqual(sheet.tell(("clear", "ada", begin, end)), 2)
                self.assertEqual(sheet.line_at("ada", 2), [])

    def test_names_at_all_bounds(self):
        for kind in KINDS:
            for name in ("a", "z", "abcdefgh", "zzzzzzzz", "put", "clear"):
                sheet = sheet_told(kind, [("put", name, name, 0, 5)])
                self.assertEqual((sheet.keys_at(1), sheet.line_at(name, 1)), ([name], [(0, 5, name)]))

    def test_no_names(self):
        for kind, name in product(KINDS, NO_NAMES):
            sheet = sheet_told(kind, ROW)
            before = view(sheet)
            tellings = [("put", name, "red", 0, 5), ("put", "ada", name, 0, 5), ("put", name, name, 0, None)]
            for telling in tellings + [("clear", name, 0, 5), ("clear", name, 0, None)]:
                self.check_refused(NoName, lambda: sheet.tell(telling))
            self.assertEqual((sheet.knowings(), view(sheet)), (len(ROW), before))

    def test_no_stretches(self):
        for kind, (begin, end) in product(KINDS, NO_STRETCHES):
            sheet = sheet_told(kind, ROW)
            before = view(sheet)
            for telling in (("put", "ada", "red", begin, end), ("clear", "ada", begin, end), ("clear", "new", begin, end)):
                self.check_refused(NoStretch, lambda: sheet.tell(telling))
            self.assertEqual((sheet.knowings(), view(sheet)), (len(ROW), before))

    def test_no_name_ahead_of_no_stretch(self):
        for kind, name, (begin, end) in product(KINDS, NO_NAMES, NO_STRETCHES):
            sheet = kind()
            for telling in (("put", name, "a", begin, end), ("put", "a", name, begin, end), ("clear", name, begin, end)):
                with self.assertRaises(NoName):
                    sheet.tell(telling)
            self.assertEqual(sheet.knowings(), 0)

    def test_behind_a_refusal_it_goes_on(self):
        for kind in KINDS:
            sheet = kind()
            for number, telling in enumerate(ROW):
                self.check_refused(NoName, lambda: sheet.tell(("put", "ada", "Red", 0, 5)))
                self.check_refused(NoStretch, lambda: sheet.tell(("put", "ada", "red", 5, 5)))
                self.assertEqual(sheet.tell(telling), number + 1)
            self.assertEqual(view(sheet), view(sheet_told(kind, ROW)))

    def test_two_sheets_beside_each_other(self):
        for kind, other_kind in product(KINDS, KINDS):
            sheet, other = kind(), other_kind()
            for telling in ROW:
                sheet.tell(telling)
            self.assertEqual((other.knowings(), other.keys_at(0), other.line_at("ada", 0)), (0, [], []))
            before = view(sheet)
            self.assertEqual(other.tell(("put", "ada", "green", 0, None)), 1)
            self.assertEqual(view(sheet), before)
            self.assertEqual(other.line_at("ada", 1), [(0, None, "green")])


class Asking(Case):
    def test_lines(self):
        for kind in KINDS:
            sheet = sheet_told(kind, ROW)
            self.assertEqual([sheet.line_at("ada", knowing) for knowing in range(10)], list(ADA))
            bob = [[]] * 2 + [[(0, None, "red")]] * 4 + [[]] * 3 + [[(3, 4, "blue")]]
            self.assertEqual([sheet.line_at("bob", knowing) for knowing in range(10)], bob)

    def test_keys(self):
        for kind in KINDS:
            sheet = sheet_told(kind, ROW)
            self.assertEqual([sheet.keys_at(knowing) for knowing in range(10)], list(KEYS))

    def test_keys_are_sorted_however_they_came(self):
        for kind in KINDS:
            sheet = sheet_told(kind, [("put", key, "a", 0, 1) for key in ("m", "z", "b", "aa", "a", "ba")])
            self.assertEqual(sheet.keys_at(6), ["a", "aa", "b", "ba", "m", "z"])

    def test_amid_the_tellings_and_behind_them(self):
        for kind in KINDS:
            sheet = kind()
            amid = [(sheet.line_at("ada", 0), sheet.keys_at(0))]
            for telling in ROW:
                knowing = sheet.tell(telling)
                amid.append((sheet.line_at("ada", knowing), sheet.keys_at(knowing)))
                behind = [(sheet.line_at("ada", elder), sheet.keys_at(elder)) for elder in range(knowing + 1)]
                self.assertEqual(behind, amid)
            self.assertEqual(amid, list(zip(ADA, KEYS)))

    def test_worths_at_each_bound_and_the_moment_beside(self):
        bounds = {bound for telling in ROW for bound in telling[-2:] if bound is not None}
        moments = sorted(moment for bound in bounds for moment in (bound - 1, bound, bound + 1) if 0 <= moment <= LAST)
        for kind in KINDS:
            sheet = kind()
            for last in range(len(ROW) + 1):
                for knowing, key, moment in product(range(last + 1), ("ada", "bob", "cy", "abcdefgh", "never"), moments):
                    wanted = worth_read(ROW[:knowing], key, moment)
                    self.assertEqual(sheet.worth_at(key, moment, knowing), wanted, (key, moment, knowing))
                if last < len(ROW):
                    sheet.tell(ROW[last])

    def test_worths(self):
        for kind in KINDS:
            sheet = sheet_told(kind, ROW)
            told = [sheet.worth_at("ada", 15, knowing) for knowing in range(10)]
            self.assertEqual(told, [None, "red", "red", "blue", None, None, None, "red", "red", "red"])
            self.assertEqual([sheet.worth_at("cy", LAST, knowing) for knowing in (4, 5)], [None, "abcdefgh"])
            self.assertIsNone(sheet.worth_at("cy", LAST - 1, 9))
            self.assertIsNone(sheet.worth_at("abcdefgh", LAST, 9))
            self.assertEqual(sheet.worth_at("abcdefgh", LAST - 1, 9), "z")

    def test_a_key_never_told(self):
        for kind in KINDS:
            sheet = sheet_told(kind, ROW)
            for knowing in range(10):
                self.assertEqual(sheet.line_at("never", knowing), [])
                self.assertIsNone(sheet.worth_at("never", 15, knowing))
                self.assertNotIn("never", sheet.keys_at(knowing))
            self.assertEqual(view(sheet), view(sheet_told(kind, ROW)))

    def test_asking_changes_nothing(self):
        for kind in KINDS:
            sheet = sheet_told(kind, ROW)
            before = view(sheet)
            sheet.worth_at("ada", 15, 3)
            self.assertEqual((view(sheet), sheet.knowings(), sheet.first()), (before, len(ROW), 0))

    def test_no_knowings(self):
        for kind, tellings in product(KINDS, ([], ROW)):
            sheet = sheet_told(kind, tellings)
            for knowing in (-1, -2, -LAST, -HUGE, len(tellings) + 1, len(tellings) + 2, LAST, HUGE):
                self.check_refused(NoKnowing, lambda: sheet.keys_at(knowing))
                for key in ("ada",) + NO_NAMES:
                    self.check_refused(NoKnowing, lambda: sheet.line_at(key, knowing))
                    for moment in (0, -1, LAST + 1):
                        self.check_refused(NoKnowing, lambda: sheet.worth_at(key, moment, knowing))

    def test_no_names(self):
        for kind, tellings, key in product(KINDS, ([], ROW), NO_NAMES):
            sheet = sheet_told(kind, tellings)
            for knowing in (0, len(tellings)):
                self.check_refused(NoName, lambda: sheet.line_at(key, knowing))
                for moment in (0, -1, LAST, LAST + 1):
                    self.check_refused(NoName, lambda: sheet.worth_at(key, moment, knowing))

    def test_no_moments(self):
        for kind, tellings, key in product(KINDS, ([], ROW), ("ada", "never")):
            sheet = sheet_told(kind, tellings)
            for moment in (-1, -2, -HUGE, LAST + 1, LAST + 2, HUGE):
                self.check_refused(NoStretch, lambda: sheet.worth_at(key, moment, 0))
                self.check_refused(NoStretch, lambda: sheet.worth_at(key, moment, len(tellings)))

    def test_a_knowing_is_refused_until_it_is_there(self):
        for kind in KINDS:
            sheet = sheet_told(kind, ROW[:3])
            self.check_refused(NoKnowing, lambda: sheet.line_at("ada", 4))
            sheet.tell(ROW[3])
            self.assertEqual(sheet.line_at("ada", 4), ADA[4])


class ByMoments(unittest.TestCase):
    def test_all_short_rows_of_a_key(self):
        for row in product(tellings_of("x", 3), repeat=3):
            sheets = [sheet_told(kind, row) for kind in KINDS]
            for knowing in range(4):
                wanted = line_read(row[:knowing], "x", 4)
                for sheet in sheets:
                    self.assertEqual(sheet.line_at("x", knowing), wanted, (row, knowing))

    def test_long_rows(self):
        for row in long_rows(8, 30, 9):
            for kind in KINDS:
                sheet = sheet_told(kind, row)
                for knowing in range(len(row) + 1):
                    self.assertEqual(sheet.keys_at(knowing), keys_read(row[:knowing], 10))
                    for key in ("x", "y", "z"):
                        self.assertEqual(sheet.line_at(key, knowing), line_read(row[:knowing], key, 10))
                        for moment in tuple(range(11)) + FAR:
                            wanted = worth_read(row[:knowing], key, moment)
                            self.assertEqual(sheet.worth_at(key, moment, knowing), wanted)


class AskersOwn(Case):
    def asks(self, sheet):
        asks = []
        for knowing in range(sheet.knowings() + 1):
            asks.append(lambda knowing=knowing: sheet.keys_at(knowing))
            for key in ("ada", "bob", "never"):
                asks.append(lambda key=key, knowing=knowing: sheet.line_at(key, knowing))
        return asks

    def test_what_the_asker_does_changes_nothing(self):
        for kind in KINDS:
            sheet = sheet_told(kind, ROW)
            before = view(sheet)
            for ask in self.asks(sheet):
                if ask():
                    self.check_own(ask)
                ask().append(("x", "y", "z"))
                self.assertEqual(view(sheet), before)

    def test_empty_lists_are_new(self):
        for kind in KINDS:
            sheet = sheet_told(kind, ROW)
            for ask in self.asks(sheet):
                self.assertIs(type(ask()), list)
                told, again = ask(), ask()
                self.assertIsNot(told, again)

    def test_changed_lists_don_t_come_into_later_tellings(self):
        for kind in KINDS:
            sheet = kind()
            for telling in ROW:
                sheet.line_at("ada", sheet.knowings()).append((900, None, "bad"))
                sheet.line_at("ada", sheet.knowings()).clear()
                sheet.keys_at(sheet.knowings()).append("bad")
                sheet.tell(telling)
            self.assertEqual(view(sheet), view(sheet_told(kind, ROW)))

    def test_lists_told_earlier_stay(self):
        for kind in KINDS:
            sheet = kind()
            told = []
            for telling in ROW:
                sheet.tell(telling)
                told.append((sheet.line_at("ada", sheet.knowings()), sheet.keys_at(sheet.knowings())))
            self.assertEqual(told, list(zip(ADA, KEYS))[1:])

    def test_the_telling_is_not_changed(self):
        for kind in KINDS:
            row = list(ROW)
            sheet_told(kind, row)
            self.assertEqual(row, ROW)

    def test_what_becomes_of_a_list_that_was_told(self):
        for kind in KINDS:
            telling = ["put", "ada", "red", 10, 20]
            sheet = sheet_told(kind, [telling])
            telling[1:] = ["bob", "blue", 0, None]
            self.assertEqual((sheet.line_at("ada", 1), sheet.keys_at(1)), ([(10, 20, "red")], ["ada"]))


class Sizes(unittest.TestCase):
    def test_a_thousand_tellings(self):
        for kind in KINDS:
            sheet = sheet_told(kind, [("put", "ada", "a", 2 * number, 2 * number + 1) for number in range(1000)])
            self.assertEqual(len(sheet.line_at("ada", 1000)), 1000)
            self.assertEqual(len(sheet.line_at("ada", 500)), 500)
            self.assertEqual(sheet.tell(("put", "ada", "a", 0, 2000)), 1001)
            self.assertEqual(sheet.line_at("ada", 1001), [(0, 2000, "a")])
            self.assertEqual(len(sheet.line_at("ada", 1000)), 1000)


if __name__ == "__main__":
    unittest.main()
