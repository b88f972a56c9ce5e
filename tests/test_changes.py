import unittest
from copy import deepcopy
from itertools import product

from by_moments import (
    Case, From, HUGE, LAST, changes_read, has, line_of, long_rows, rows, sheet_told, stretches, table_read,
)
from twotimes.changes import changed, changes, joined, table_at, turned
from twotimes.errors import Forgotten, NoFit, NoKnowing
from twotimes.forgets import Short
from twotimes.sheets import Sheet
from twotimes.tiles import Tiled

KINDS = (Sheet, Tiled, Short)
ROW = [
    ("put", "cy", "red", 5, 8),
    ("put", "ada", "red", 10, 30),
    ("put", "bob", "blue", 0, None),
    ("put", "ada", "blue", 20, 25),
    ("clear", "cy", 0, None),
    ("clear", "bob", 40, 50),
    ("put", "abe", "red", 7, LAST),
    ("put", "ada", "red", 20, 25),
]
FROM_FOUR_TO_LAST = [
    ("abe", 7, LAST, None, "red"), ("ada", 20, 25, "blue", "red"), ("bob", 40, 50, "blue", None),
    ("cy", 5, 8, "red", None),
]


def turned_read(some):
    return [(key, begin, end, now, then) for key, begin, end, then, now in some]


# A sheet with a key's line at one knowing, and another line at its last one.
def sheet_of_lines(kind, line, other, key="ada"):
    row = [("put", key, worth, begin, end) for begin, end, worth in line] + [("clear", key, 0, None)]
    row += [("put", key, worth, begin, end) for begin, end, worth in other]
    return sheet_told(kind, row), len(line), len(row)


def table_of(rows_of_keys):
    lines = {key: line_of(row) for key, row in rows_of_keys.items()}
    return {key: line for key, line in lines.items() if line}


class Tables(Case):
    def test_at_each_knowing(self):
        for kind in KINDS:
            sheet = sheet_told(kind, ROW)
            self.assertEqual(table_at(sheet, 0), {})
            self.assertEqual(table_at(sheet, 1), {"cy": [(5, 8, "red")]})
            wanted = {"ada": [(10, 30, "red")], "bob": [(0, None, "blue")], "cy": [(5, 8, "red")]}
            self.assertEqual(table_at(sheet, 3), wanted)
            wanted = {
                "abe": [(7, LAST, "red")], "ada": [(10, 30, "red")], "bob": [(0, 40, "blue"), (50, None, "blue")],
            }
            self.assertEqual(table_at(sheet, 8), wanted)

    def test_has_the_keys_and_lines_of_the_sheet(self):
        for kind, row in product(KINDS, long_rows(4, 20, 5)):
            sheet = sheet_told(kind, row)
            for knowing in range(len(row) + 1):
                table = table_at(sheet, knowing)
                self.assertEqual(sorted(table), sheet.keys_at(knowing))
                self.assertEqual(table, {key: sheet.line_at(key, knowing) for key in sheet.keys_at(knowing)})
                self.assertEqual(table, table_of(table_read(row[:knowing], 6)))

    def test_no_knowings(self):
        for kind, row in product(KINDS, (ROW, [])):
            sheet = sheet_told(kind, row)
            for knowing in (-1, -HUGE, len(row) + 1, HUGE):
                self.check_refused(NoKnowing, lambda: table_at(sheet, knowing))
        later = From(sheet_told(Sheet, ROW), 4)
        self.check_refused(Forgotten, lambda: table_at(later, 3))
        self.assertEqual(table_at(later, 4), table_at(sheet_told(Sheet, ROW), 4))

    def test_the_askers_own(self):
        for kind in KINDS:
            sheet = sheet_told(kind, ROW)
            self.check_own_table(lambda: table_at(sheet, 8))
            told = table_at(sheet, 3)
            before = deepcopy(told)
            sheet.tell(("put", "ada", "green", 0, None))
            self.assertEqual((told, table_at(sheet, 3)), (before, before))


class Changes(Case):
    def check(self, wanted, knowing, later, row=ROW):
        for kind in KINDS:
            sheet = sheet_told(kind, row)
            self.assertEqual(changes(sheet, knowing, later), wanted)
            self.assertEqual(changes(sheet, later, knowing), turned_read(wanted))
            self.assertEqual((sheet.knowings(), sheet.first()), (len(row), 0))

    def check_lines(self, line, other, wanted):
        for kind in KINDS:
            sheet, knowing, later = sheet_of_lines(kind, line, other)
            told = [("ada",) + change for change in wanted]
            self.assertEqual(changes(sheet, knowing, later), told)
            self.assertEqual(changes(sheet, later, knowing), turned_read(told))

    def test_keys_that_come_go_and_stay(self):
        self.check(FROM_FOUR_TO_LAST, 4, 8)
        self.check([("cy", 5, 8, None, "red")], 0, 1)
        self.check([("cy", 5, 8, "red", None)], 4, 5)
        self.check([("ada", 10, 20, None, "red"), ("ada", 20, 25, None, "blue"), ("ada", 25, 30, None, "red"),
                    ("bob", 0, None, None, "blue")], 1, 4)

    def test_to_a_later_and_to_an_elder_one(self):
        sheet = sheet_told(Sheet, ROW)
        self.assertEqual(changes(sheet, 3, 4), [("ada", 20, 25, "red", "blue")])
        self.assertEqual(changes(sheet, 4, 3), [("ada", 20, 25, "blue", "red")])
        self.assertEqual(changes(sheet, 6, 7), [("abe", 7, LAST, None, "red")])
        self.assertEqual(changes(sheet, 7, 6), [("abe", 7, LAST, "red", None)])

    def test_to_itself(self):
        for knowing in range(len(ROW) + 1):
            self.check([], knowing, knowing)
        self.check([], 0, 0, [])

    def test_what_was_changed_and_changed_back_is_none(self):
        self.check([("bob", 0, None, None, "blue")], 2, 3)
        row = ROW[:4] + [ROW[7]]
        self.check([], 3, 5, row)
        self.check([("ada", 20, 25, "blue", "red")], 4, 5, row)

    def test_stretches_that_touch(self):
        self.check_lines([(0, 5, "a")], [(5, 9, "a")], [(0, 5, "a", None), (5, 9, None, "a")])
        self.check_lines([(0, 5, "a")], [(5, None, "b")], [(0, 5, "a", None), (5, None, None, "b")])
        self.check_lines([(0, LAST, "a")], [(LAST, None, "a")], [(0, LAST, "a", None), (LAST, None, None, "a")])

    def test_stretches_that_lie_apart(self):
        self.check_lines([(0, 5, "a")], [(7, 9, "a")], [(0, 5, "a", None), (7, 9, None, "a")])
        self.check_lines([(0, 5, "a"), (7, 9, "b")], [], [(0, 5, "a", None), (7, 9, "b", None)])

    def test_stretches_that_overlap(self):
        self.check_lines([(0, 6, "a")], [(4, 9, "a")], [(0, 4, "a", None), (6, 9, None, "a")])
        self.check_lines([(0, 6, "a")], [(4, 9, "b")], [(0, 4, "a", None), (4, 6, "a", "b"), (6, 9, None, "b")])
        self.check_lines([(0, 9, "a")], [(4, 6, "b")], [(0, 4, "a", None), (4, 6, "a", "b"), (6, 9, "a", None)])
        self.check_lines([(0, 9, "a")], [(4, 6, "a")], [(0, 4, "a", None), (6, 9, "a", None)])
        self.check_lines([(0, 9, "a")], [(0, 9, "b")], [(0, 9, "a", "b")])
        self.check_lines([(0, 9, "a")], [(0, 8, "a")], [(8, 9, "a", None)])

    def test_without_an_end(self):
        self.check_lines([(0, None, "a")], [(7, None, "a")], [(0, 7, "a", None)])
        self.check_lines([(0, None, "a")], [(7, None, "b")], [(0, 7, "a", None), (7, None, "a", "b")])
        self.check_lines([(0, None, "a")], [(7, 8, "a")], [(0, 7, "a", None), (8, None, "a", None)])
        self.check_lines([(3, None, "a")], [], [(3, None, "a", None)])

    def test_at_the_bounds_of_moments(self):
        self.check_lines([(0, 1, "a")], [(0, 1, "b")], [(0, 1, "a", "b")])
        self.check_lines([(0, LAST, "a")], [(0, None, "a")], [(LAST, None, None, "a")])
        self.check_lines([(LAST, None, "a")], [(LAST, None, "b")], [(LAST, None, "a", "b")])
        self.check_lines([(LAST - 1, LAST, "a")], [(LAST - 1, LAST, "b")], [(LAST - 1, LAST, "a", "b")])

    def test_neighbours(self):
        # Alike in both: told in two parts, but one stretch.
        self.check_lines([(0, 5, "a"), (5, 9, "a")], [(0, 3, "b"), (3, 9, "b")], [(0, 9, "a", "b")])
        self.check_lines([(0, 5, "a"), (5, 9, "a")], [], [(0, 9, "a", None)])
        # Alike in one.
        self.check_lines([(0, 5, "a"), (5, 9, "b")], [(0, 9, "c")], [(0, 5, "a", "c"), (5, 9, "b", "c")])
        self.check_lines([(0, 5, "a"), (5, 9, "b")], [], [(0, 5, "a", None), (5, 9, "b", None)])
        self.check_lines([(0, 9, "a")], [(5, 9, "b")], [(0, 5, "a", None), (5, 9, "a", "b")])
        # Alike in none.
        self.check_lines([(0, 5, "a"), (5, 9, "b")], [(0, 5, "b"), (5, 9, "a")], [(0, 5, "a", "b"), (5, 9, "b", "a")])
        self.check_lines([(0, 5, "a")], [(5, 9, "a")], [(0, 5, "a", None), (5, 9, None, "a")])
        # The same change on both sides of what stays.
        self.check_lines(
            [(0, 9, "a")], [(0, 3, "b"), (3, 5, "a"), (5, 9, "b")], [(0, 3, "a", "b"), (5, 9, "a", "b")])

    def test_sorted_by_key_then_begin(self):
        keys = ["m", "ba", "z", "b", "a", "abcdefgh"]
        row = [("put", key, "red", begin, begin + 1) for begin in (10, 2, 0) for key in keys]
        wanted = [(key, begin, begin + 1, None, "red") for key in sorted(keys) for begin in (0, 2, 10)]
        self.check(wanted, 0, len(row), row)

    def test_no_knowings(self):
        for kind, row in product(KINDS, (ROW, [])):
            sheet = sheet_told(kind, row)
            for bad, good in product((-1, -HUGE, len(row) + 1, len(row) + 2, HUGE), (0, len(row))):
                self.check_refused(NoKnowing, lambda: changes(sheet, bad, good))
                self.check_refused(NoKnowing, lambda: changes(sheet, good, bad))
                self.check_refused(NoKnowing, lambda: changes(sheet, bad, bad))
            self.assertEqual(sheet.knowings(), len(row))

    def test_of_two_bad_knowings_the_one_then_tells_which(self):
        sheet = From(sheet_told(Sheet, ROW), 4)
        for forgotten, none in product((0, 3), (-1, len(ROW) + 1)):
            self.check_refused(Forgotten, lambda: changes(sheet, forgotten, none))
            self.check_refused(NoKnowing, lambda: changes(sheet, none, forgotten))
            self.check_refused(Forgotten, lambda: changes(sheet, 8, forgotten))
            self.check_refused(Forgotten, lambda: changes(sheet, forgotten, 4))
            self.check_refused(NoKnowing, lambda: changes(sheet, 4, none))
        self.assertEqual(changes(sheet, 4, 8), FROM_FOUR_TO_LAST)

    def test_all_short_lines(self):
        for row, other in product(rows(3), repeat=2):
            sheet, knowing, later = sheet_of_lines(Tiled, line_of(row), line_of(other), "x")
            self.assertEqual(changes(sheet, knowing, later), changes_read({"x": row}, {"x": other}))

    def test_long_rows(self):
        for row in long_rows(4, 20, 6):
            tables = [table_read(row[:knowing], 7) for knowing in range(len(row) + 1)]
            sheets = [sheet_told(kind, row) for kind in KINDS]
            for knowing, later in product(range(len(tables)), repeat=2):
                wanted = changes_read(tables[knowing], tables[later])
                for sheet in sheets:
                    self.assertEqual(changes(sheet, knowing, later), wanted)

    def test_the_askers_own(self):
        for kind in KINDS:
            sheet = sheet_told(kind, ROW)
            self.check_own(lambda: changes(sheet, 4, 8))
            told = changes(sheet, 4, 8)
            sheet.tell(("put", "ada", "green", 0, None))
            self.assertEqual((told, changes(sheet, 4, 8)), (FROM_FOUR_TO_LAST, FROM_FOUR_TO_LAST))


class Changed(Case):
    TABLE = {"ada": [(10, 20, "red"), (20, 30, "blue"), (40, None, "red")], "bob": [(0, LAST, "red")]}

    def check(self, some, wanted, table=None):
        table = self.TABLE if table is None else table
        before, handed = deepcopy(table), list(some)
        self.assertEqual(changed(table, handed), wanted)
        self.assertEqual((table, handed), (before, some))

    def check_no_fit(self, some, table=None):
        table = self.TABLE if table is None else table
        before, handed = deepcopy(table), list(some)
        self.check_refused(NoFit, lambda: changed(table, handed))
        self.assertEqual((table, handed), (before, some))

    def test_no_changes(self):
        self.check([], self.TABLE)
        self.check([], {}, {})

    def test_lines_without_keys(self):
        some = [("ada", 3, None, None, "red"), ("bob", 0, 5, None, "blue"), ("bob", 5, 9, None, "red")]
        self.check(some, {"ada": [(3, None, "red")], "bob": [(0, 5, "blue"), (5, 9, "red")]}, {})

    def test_a_part_of_a_line(self):
        ada = self.TABLE["ada"]
        bob = [(0, 5, "red"), (5, 9, "blue"), (9, LAST, "red")]
        self.check([("bob", 5, 9, "red", "blue")], {"ada": ada, "bob": bob})
        self.check([("bob", 5, 9, "red", None)], {"ada": ada, "bob": [(0, 5, "red"), (9, LAST, "red")]})
        self.check([("bob", LAST, None, None, "red")], {"ada": ada, "bob": [(0, None, "red")]})
        self.check([("bob", 0, LAST, "red", "blue")], {"ada": ada, "bob": [(0, LAST, "blue")]})
        self.check([("new", 0, 1, None, "red")], {"ada": ada, "bob": self.TABLE["bob"], "new": [(0, 1, "red")]})

    def test_several_of_a_line(self):
        bob = self.TABLE["bob"]
        some = [("ada", 10, 15, "red", None), ("ada", 20, 30, "blue", "red"), ("ada", 30, 40, None, "red")]
        self.check(some, {"ada": [(15, None, "red")], "bob": bob})
        some = [("ada", 10, 20, "red", "blue"), ("ada", 20, 30, "blue", "red")]
        self.check(some, {"ada": [(10, 20, "blue"), (20, 30, "red"), (40, None, "red")], "bob": bob})

    def test_a_whole_line_taken_away(self):
        self.check([("bob", 0, LAST, "red", None)], {"ada": self.TABLE["ada"]})
        some = [("ada", 10, 20, "red", None), ("ada", 20, 30, "blue", None), ("ada", 40, None, "red", None)]
        self.check(some, {"bob": self.TABLE["bob"]})
        self.check(some + [("bob", 0, LAST, "red", None)], {})

    def test_the_order_in_which_they_are_handed_in(self):
        some = [("bob", 5, 9, "red", None), ("ada", 40, None, "red", None), ("ada", 10, 20, "red", "blue")]
        self.check(some, {"ada": [(10, 30, "blue")], "bob": [(0, 5, "red"), (9, LAST, "red")]})

    def test_a_worth_that_is_not_there(self):
        for change in (
            # At its first, its last and a middle moment there is nothing.
            ("ada", 9, 20, "red", "blue"), ("ada", 20, 31, "blue", "red"), ("ada", 39, None, "red", "blue"),
            ("bob", 5, None, "red", "blue"), ("bob", 0, None, "red", None), ("bob", LAST, None, "red", "blue"),
            # At its first, its last and a middle moment there is another worth.
            ("ada", 19, 30, "blue", "red"), ("ada", 10, 21, "red", None), ("ada", 10, 21, "red", "blue"),
            # At all of them.
            ("ada", 10, 20, "blue", "red"), ("ada", 30, 40, "red", "blue"), ("ada", 0, 10, "red", None),
            ("never", 0, 1, "red", "blue"), ("never", 0, None, "red", None), ("bob", 7, 8, "blue", None),
        ):
            self.check_no_fit([change])
        table = {"ada": [(0, 5, "a"), (6, 9, "a")], "bob": [(0, 5, "a"), (5, 6, "b"), (6, 9, "a")]}
        for key, end, now in product(("ada", "bob"), (6, 7, 9), ("b", "c", None)):
            self.check_no_fit([(key, 0, end, "a", now)], table)

    def test_a_worth_where_none_is_asked(self):
        for change in (
            ("ada", 0, 11, None, "red"), ("ada", 29, 40, None, "red"), ("ada", 30, 41, None, "blue"),
            ("ada", 30, None, None, "blue"), ("ada", 0, None, None, "blue"), ("ada", 12, 13, None, "blue"),
            ("bob", 0, LAST, None, "red"), ("bob", LAST - 1, None, None, "red"), ("bob", 0, 1, None, "red"),
        ):
            self.check_no_fit([change])
        table = {"ada": [(3, 4, "a")]}
        self.check_no_fit([("ada", 0, 9, None, "b")], table)
        self.check_no_fit([("ada", 0, 4, None, "b")], table)
        self.check_no_fit([("ada", 3, 9, None, "b")], table)

    def test_no_lines_at_all(self):
        self.check_no_fit([("ada", 0, 5, "red", "blue")], {})
        self.check_no_fit([("ada", 0, None, "red", None)], {})

    def test_one_that_fits_not_among_others(self):
        good = [("ada", 10, 20, "red", "blue"), ("bob", 5, 9, "red", None), ("cy", 0, 5, None, "red")]
        for bad in (("aa", 0, 1, "red", None), ("ada", 20, 25, "red", "blue"), ("bob", 9, 10, None, "red"),
                    ("cy", 5, 9, "red", None), ("zoe", 0, None, "red", "blue")):
            self.check_no_fit(sorted(good + [bad], key=lambda change: change[:2]))

    def test_all_short_lines(self):
        for row, (begin, end) in product(rows(3), stretches(3)):
            for then, now in (("a", "b"), ("a", None), (None, "b"), ("b", "a"), ("b", None), (None, "a")):
                inside = [has(begin, end, moment) for moment in range(3)]
                table, some = table_of({"x": row}), [("x", begin, end, then, now)]
                if all(worth == then for worth, within in zip(row, inside) if within):
                    wanted = table_of({"x": [now if within else worth for worth, within in zip(row, inside)]})
                    self.check(some, wanted, table)
                else:
                    self.check_no_fit(some, table)

    def test_a_sheets_changes_lead_from_knowing_to_knowing(self):
        for row in long_rows(3, 15, 6) + [ROW]:
            sheet = sheet_told(Tiled, row)
            for knowing, later in product(range(len(row) + 1), repeat=2):
                self.check(changes(sheet, knowing, later), table_at(sheet, later), table_at(sheet, knowing))

    def test_a_sheets_changes_fit_no_other_lines_of_their_moments(self):
        for row, then, now in product(rows(3), repeat=3):
            some = changes_read({"x": then}, {"x": now})
            fits = all(worth == old for worth, old, new in zip(row, then, now) if old != new)
            table = table_of({"x": row})
            if fits:
                wanted = table_of({"x": [worth if old == new else new for worth, old, new in zip(row, then, now)]})
                self.assertEqual(changed(table, some), wanted)
            else:
                with self.assertRaises(NoFit):
                    changed(table, some)

    def test_the_askers_own(self):
        for some in ([], [("bob", 5, 9, "red", "blue")], [("cy", 0, 9, None, "red")]):
            table = deepcopy(self.TABLE)
            self.check_own_table(lambda: changed(table, some))
            told = changed(table, some)
            before = deepcopy(told)
            self.check_apart(list(told.values()) + list(table.values()))
            table["ada"].clear()
            table.clear()
            some.clear()
            self.assertEqual(told, before)

    def test_one_list_handed_in_for_two_keys(self):
        line = [(0, 5, "a")]
        told = changed({"ada": line, "bob": line}, [])
        self.check_apart(list(told.values()) + [line])
        told["ada"].append((7, 9, "b"))
        self.assertEqual((told["bob"], line), ([(0, 5, "a")], [(0, 5, "a")]))


class Turned(Case):
    def test_examples(self):
        self.assertEqual(turned([]), [])
        self.assertEqual(turned([("ada", 0, 5, "red", None)]), [("ada", 0, 5, None, "red")])
        self.assertEqual(turned(FROM_FOUR_TO_LAST), turned_read(FROM_FOUR_TO_LAST))

    def test_twice_is_as_before(self):
        for row in long_rows(3, 15, 6) + [ROW]:
            sheet = sheet_told(Tiled, row)
            for knowing, later in product(range(len(row) + 1), repeat=2):
                some = changes(sheet, knowing, later)
                handed = list(some)
                self.assertEqual(turned(turned(handed)), some)
                self.assertEqual(handed, some)

    def test_there_and_back(self):
        for row in long_rows(3, 15, 6) + [ROW]:
            sheet = sheet_told(Tiled, row)
            for knowing, later in product(range(len(row) + 1), repeat=2):
                some = changes(sheet, knowing, later)
                table = table_at(sheet, knowing)
                self.assertEqual(turned(some), changes(sheet, later, knowing))
                self.assertEqual(changed(changed(table, some), turned(some)), table)

    def test_the_askers_own(self):
        nothing = []
        self.check_apart([nothing, turned(nothing), turned(nothing)])
        some = list(FROM_FOUR_TO_LAST)
        self.check_own(lambda: turned(some))
        told = turned(some)
        self.check_apart([told, some])
        some.clear()
        self.assertEqual(told, turned_read(FROM_FOUR_TO_LAST))


class Joined(Case):
    def check(self, some, others, wanted):
        handed = (list(some), list(others))
        self.assertEqual(joined(some, others), wanted)
        self.assertEqual((some, others), handed)
        self.assertEqual(joined(turned(others), turned(some)), turned_read(wanted))

    def test_none_ahead_and_behind(self):
        self.check([], [], [])
        self.check(FROM_FOUR_TO_LAST, [], FROM_FOUR_TO_LAST)
        self.check([], FROM_FOUR_TO_LAST, FROM_FOUR_TO_LAST)

    def test_that_share_all_moments(self):
        self.check([("ada", 0, 5, "a", "b")], [("ada", 0, 5, "b", "c")], [("ada", 0, 5, "a", "c")])
        self.check([("ada", 0, 5, None, "b")], [("ada", 0, 5, "b", "c")], [("ada", 0, 5, None, "c")])
        self.check([("ada", 0, 5, "a", None)], [("ada", 0, 5, None, "c")], [("ada", 0, 5, "a", "c")])
        self.check([("ada", 0, None, "a", "b")], [("ada", 0, None, "b", None)], [("ada", 0, None, "a", None)])
        self.check([("ada", 0, 5, "a", "b")], [("ada", 0, 5, "b", "a")], [])
        self.check([("ada", 0, 5, None, "b")], [("ada", 0, 5, "b", None)], [])

    def test_that_share_some_moments(self):
        wanted = [("ada", 0, 5, "a", "b"), ("ada", 5, 9, "a", "c"), ("ada", 9, None, "b", "c")]
        self.check([("ada", 0, 9, "a", "b")], [("ada", 5, None, "b", "c")], wanted)
        wanted = [("ada", 0, 3, "a", "b"), ("ada", 5, 9, "a", "b")]
        self.check([("ada", 0, 9, "a", "b")], [("ada", 3, 5, "b", "a")], wanted)
        wanted = [("ada", 0, 3, "b", "a"), ("ada", 5, LAST, "b", "a")]
        self.check([("ada", 3, 5, "a", "b")], [("ada", 0, LAST, "b", "a")], wanted)
        self.check([("ada", 0, 5, "a", "b")], [("ada", 0, 3, "b", "a")], [("ada", 3, 5, "a", "b")])

    def test_that_share_no_moments(self):
        wanted = [("ada", 0, 5, "a", "b"), ("ada", 7, 9, "b", "c")]
        self.check([wanted[0]], [wanted[1]], wanted)
        self.check([wanted[1]], [wanted[0]], wanted)
        wanted = [("ada", 0, 5, "a", "b"), ("bob", 0, 5, "b", "a")]
        self.check([wanted[0]], [wanted[1]], wanted)
        self.check([wanted[1]], [wanted[0]], wanted)

    def test_neighbours(self):
        # Alike in both.
        self.check([("ada", 0, 5, "a", "b")], [("ada", 5, 9, "a", "b")], [("ada", 0, 9, "a", "b")])
        self.check([("ada", 5, None, None, "b")], [("ada", 0, 5, None, "b")], [("ada", 0, None, None, "b")])
        some = [("ada", 0, 5, "a", "b"), ("ada", 5, 9, "a", "c")]
        self.check(some, [("ada", 5, 9, "c", "b")], [("ada", 0, 9, "a", "b")])
        self.check(some, [("ada", 0, 5, "b", None), ("ada", 5, 9, "c", None)], [("ada", 0, 9, "a", None)])
        # Alike in one, and in none.
        self.check([("ada", 0, 5, "a", "b")], [("ada", 5, 9, "a", "c")], some)
        wanted = [("ada", 0, 5, "a", "b"), ("ada", 5, 9, "b", "a")]
        self.check([wanted[0]], [wanted[1]], wanted)
        # Of two keys.
        wanted = [("ada", 0, 5, "a", "b"), ("bob", 5, 9, "a", "b")]
        self.check([wanted[0]], [wanted[1]], wanted)

    def test_sorted_by_key_then_begin(self):
        keys = ["z", "m", "ba", "b", "abcdefgh", "a"]
        rows_of_keys = sorted((key, begin, begin + 1, None, "a") for key in keys for begin in (0, 2, 10))
        for many in range(1, 6):
            some = [row for number, row in enumerate(rows_of_keys) if number % many == 0]
            others = [row for number, row in enumerate(rows_of_keys) if number % many]
            self.check(some, others, rows_of_keys)
            self.check(others, some, rows_of_keys)

    def test_with_its_own_turned_ones(self):
        for row in long_rows(2, 15, 6) + [ROW]:
            sheet = sheet_told(Tiled, row)
            for knowing, later in product(range(len(row) + 1), repeat=2):
                some = changes(sheet, knowing, later)
                self.check(some, turned(some), [])

    def test_from_the_first_to_the_third(self):
        for row in long_rows(2, 12, 6) + [ROW]:
            sheet = sheet_told(Tiled, row)
            tables = [table_read(row[:knowing], 7) for knowing in range(len(row) + 1)] if row is not ROW else None
            for first, second, third in product(range(len(row) + 1), repeat=3):
                told = joined(changes(sheet, first, second), changes(sheet, second, third))
                self.assertEqual(told, changes(sheet, first, third))
                if tables:
                    self.assertEqual(told, changes_read(tables[first], tables[third]))
                self.assertEqual(changed(table_at(sheet, first), told), table_at(sheet, third))

    def test_all_short_lines(self):
        for first, second, third in product(rows(3), repeat=3):
            some = changes_read({"x": first}, {"x": second})
            others = changes_read({"x": second}, {"x": third})
            self.assertEqual(joined(some, others), changes_read({"x": first}, {"x": third}))

    def test_three_from_the_left_and_from_the_right(self):
        for row in long_rows(2, 8, 6) + [ROW[:6]]:
            sheet = sheet_told(Tiled, row)
            for first, second, third, fourth in product(range(len(row) + 1), repeat=4):
                one, two = changes(sheet, first, second), changes(sheet, second, third)
                three = changes(sheet, third, fourth)
                wanted = changes(sheet, first, fourth)
                self.assertEqual(joined(joined(one, two), three), wanted)
                self.assertEqual(joined(one, joined(two, three)), wanted)

    def test_the_askers_own(self):
        nothing = []
        self.check_apart([nothing, joined(nothing, nothing), joined(nothing, nothing)])
        for many in (0, 2, len(FROM_FOUR_TO_LAST)):
            some, others = FROM_FOUR_TO_LAST[:many], FROM_FOUR_TO_LAST[many:]
            self.check_own(lambda: joined(some, others))
            told = joined(some, others)
            self.check_apart([told, some, others])
            some.clear()
            others.clear()
            self.assertEqual(told, FROM_FOUR_TO_LAST)


class Sizes(Case):
    def test_three_hundred_changes(self):
        keys = [one + two for one in "abcdefghij" for two in "abcdefghij"]
        row = [("put", key, "red", begin, begin + 5) for key in keys for begin in (0, 10, 20)]
        sheet = sheet_told(Tiled, row)
        some = changes(sheet, 0, 300)
        # assertEqual would be long about telling where two such lists differ.
        self.assertTrue(some == [(key, begin, begin + 5, None, "red") for key in keys for begin in (0, 10, 20)])
        self.assertTrue(changed({}, some) == table_at(sheet, 300))
        self.assertTrue(joined(changes(sheet, 0, 150), changes(sheet, 150, 300)) == some)

    def test_a_long_line(self):
        row = [("put", "ada", "ab"[number % 2], 7 * number % 1000, 7 * number % 1000 + 9) for number in range(1000)]
        sheet = sheet_told(Tiled, row)
        some, others = changes(sheet, 0, 500), changes(sheet, 500, 1000)
        self.assertTrue(joined(some, others) == changes(sheet, 0, 1000))
        self.assertTrue(changed(changed({}, some), others) == table_at(sheet, 1000))


if __name__ == "__main__":
    unittest.main()
