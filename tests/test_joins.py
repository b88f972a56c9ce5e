import unittest
from itertools import product

from by_moments import (
    Case, From, HUGE, LAST, by_key_read, by_worth_read, line_of, long_rows, rows, sheet_told, table_read,
)
from twotimes.errors import Forgotten, NoKnowing
from twotimes.joins import by_key, by_worth
from twotimes.sheets import Sheet
from twotimes.tiles import Tiled

KINDS = (Sheet, Tiled)
ONE = [
    ("put", "cy", "red", 5, 8),
    ("put", "ada", "red", 10, 30),
    ("put", "bob", "blue", 0, None),
    ("put", "ada", "blue", 20, 25),
    ("clear", "bob", 40, 50),
    ("put", "ada", "red", 20, 25),
]
OTHER = [
    ("put", "dot", "red", 0, None),
    ("put", "bob", "red", 45, 60),
    ("put", "ada", "green", 0, 15),
    ("put", "ada", "red", 15, 40),
    ("put", "bob", "blue", 20, 45),
]


class Joins(Case):
    def check(self, join, wanted, row=ONE, other_row=OTHER, knowing=None, other_knowing=None):
        knowing = len(row) if knowing is None else knowing
        other_knowing = len(other_row) if other_knowing is None else other_knowing
        for kind, other_kind in product(KINDS, repeat=2):
            sheet, other = sheet_told(kind, row), sheet_told(other_kind, other_row)
            self.assertEqual(join(sheet, knowing, other, other_knowing), wanted)

    def check_twice(self, join, wanted, row, knowing, other_knowing):
        for kind in KINDS:
            sheet = sheet_told(kind, row)
            self.assertEqual(join(sheet, knowing, sheet, other_knowing), wanted)

    # Of lines of one key, "ada", in either sheet.
    def check_lines(self, join, line, other, wanted):
        tellings, others = [
            [("put", "ada", worth, begin, end) for begin, end, worth in pieces] for pieces in (line, other)
        ]
        self.check(join, wanted, tellings, others)
        turned = {by_key: lambda row: row[:3] + (row[4], row[3]), by_worth: lambda row: row}[join]
        self.check(join, [turned(row) for row in wanted], others, tellings)


class ByKey(Joins):
    def test_at_the_last_knowings(self):
        wanted = [
            ("ada", 10, 15, "red", "green"), ("ada", 15, 30, "red", "red"),
            ("bob", 20, 40, "blue", "blue"), ("bob", 50, 60, "blue", "red"),
        ]
        self.check(by_key, wanted)

    def test_at_elder_knowings(self):
        wanted = [
            ("ada", 10, 15, "red", "green"), ("ada", 15, 20, "red", "red"), ("ada", 20, 25, "blue", "red"),
            ("ada", 25, 30, "red", "red"), ("bob", 45, 60, "blue", "red"),
        ]
        self.check(by_key, wanted, knowing=4, other_knowing=4)
        self.check(by_key, [("ada", 10, 15, "red", "green")], knowing=2, other_knowing=3)
        self.check(by_key, [("bob", 45, 60, "blue", "red")], knowing=3, other_knowing=2)
        self.check(by_key, [("bob", 50, 60, "blue", "red")], knowing=6, other_knowing=2)

    def test_one_sheet_at_two_knowings(self):
        wanted = [
            ("ada", 10, 20, "red", "red"), ("ada", 20, 25, "blue", "red"), ("ada", 25, 30, "red", "red"),
            ("bob", 0, 40, "blue", "blue"), ("bob", 50, None, "blue", "blue"), ("cy", 5, 8, "red", "red"),
        ]
        self.check_twice(by_key, wanted, ONE, 4, 6)
        turned = [(key, begin, end, worth, other) for key, begin, end, other, worth in wanted]
        self.check_twice(by_key, turned, ONE, 6, 4)

    def test_one_sheet_at_one_knowing(self):
        wanted = [("ada", 0, 15, "green", "green"), ("ada", 15, 40, "red", "red"), ("dot", 0, None, "red", "red")]
        self.check_twice(by_key, [wanted[0], ("bob", 45, 60, "red", "red"), wanted[2]], OTHER, 3, 3)
        wanted[2:2] = [("bob", 20, 45, "blue", "blue"), ("bob", 45, 60, "red", "red")]
        self.check_twice(by_key, wanted, OTHER, 5, 5)

    def test_nothing_in_common(self):
        self.check(by_key, [], [], [])
        self.check(by_key, [], ONE, [])
        self.check(by_key, [], [], OTHER)
        self.check(by_key, [], knowing=0)
        self.check(by_key, [], other_knowing=0)
        self.check(by_key, [], ONE[:1], OTHER)
        self.check(by_key, [], ONE, OTHER[:1])
        self.check_lines(by_key, [(0, 5, "a")], [(7, 9, "a")], [])

    def test_stretches_that_touch(self):
        self.check_lines(by_key, [(0, 5, "a")], [(5, 9, "a")], [])
        self.check_lines(by_key, [(0, 5, "a")], [(5, None, "b")], [])
        self.check_lines(by_key, [(0, LAST, "a")], [(LAST, None, "a")], [])

    def test_stretches_that_overlap(self):
        self.check_lines(by_key, [(0, 6, "a")], [(5, 9, "b")], [("ada", 5, 6, "a", "b")])
        self.check_lines(by_key, [(0, 9, "a")], [(3, 5, "b")], [("ada", 3, 5, "a", "b")])
        self.check_lines(by_key, [(3, 5, "a")], [(3, 5, "b")], [("ada", 3, 5, "a", "b")])
        self.check_lines(by_key, [(0, 1, "a")], [(0, None, "a")], [("ada", 0, 1, "a", "a")])

    def test_without_an_end(self):
        self.check_lines(by_key, [(0, None, "a")], [(7, None, "b")], [("ada", 7, None, "a", "b")])
        self.check_lines(by_key, [(0, None, "a")], [(LAST, None, "a")], [("ada", LAST, None, "a", "a")])
        self.check_lines(by_key, [(0, None, "a")], [(7, LAST, "b")], [("ada", 7, LAST, "a", "b")])

    def test_neighbours(self):
        # Alike in both: told in two parts, but one stretch.
        self.check_lines(by_key, [(0, 5, "a"), (5, 9, "a")], [(0, 9, "b")], [("ada", 0, 9, "a", "b")])
        self.check_lines(by_key, [(0, 5, "a"), (5, 9, "a")], [(0, 3, "b"), (3, 9, "b")], [("ada", 0, 9, "a", "b")])
        # Alike in one.
        wanted = [("ada", 0, 5, "a", "b"), ("ada", 5, 9, "c", "b")]
        self.check_lines(by_key, [(0, 5, "a"), (5, 9, "c")], [(0, 9, "b")], wanted)
        # Alike in none.
        wanted = [("ada", 0, 5, "a", "b"), ("ada", 5, 9, "b", "a")]
        self.check_lines(by_key, [(0, 5, "a"), (5, 9, "b")], [(0, 5, "b"), (5, 9, "a")], wanted)
        # Alike, but not neighbours.
        wanted = [("ada", 0, 5, "a", "b"), ("ada", 6, 9, "a", "b")]
        self.check_lines(by_key, [(0, 5, "a"), (6, 9, "a")], [(0, 9, "b")], wanted)
        self.check_lines(by_key, [(0, 5, "a"), (5, 6, "c"), (6, 9, "a")], [(0, 5, "b"), (6, 9, "b")], wanted)

    def test_the_order(self):
        row = [("put", key, "w", begin, begin + 1) for key in ("m", "ba", "z", "b", "a") for begin in (100, 9, 20)]
        wanted = [
            (key, begin, begin + 1, "w", "w") for key in ("a", "b", "ba", "m", "z") for begin in (9, 20, 100)
        ]
        self.check(by_key, wanted, row, row[::-1])


class ByWorth(Joins):
    def test_at_the_last_knowings(self):
        wanted = [
            ("blue", "bob", "bob", 20, 40), ("red", "ada", "ada", 15, 30), ("red", "ada", "dot", 10, 30),
            ("red", "cy", "dot", 5, 8),
        ]
        self.check(by_worth, wanted)

    def test_at_elder_knowings(self):
        wanted = [
            ("red", "ada", "ada", 15, 20), ("red", "ada", "ada", 25, 30), ("red", "ada", "dot", 10, 20),
            ("red", "ada", "dot", 25, 30), ("red", "cy", "dot", 5, 8),
        ]
        self.check(by_worth, wanted, knowing=4, other_knowing=4)
        self.check(by_worth, [("red", "cy", "dot", 5, 8)], knowing=1, other_knowing=5)
        self.check(by_worth, wanted[4:], knowing=1, other_knowing=1)

    def test_one_sheet_at_two_knowings(self):
        wanted = [
            ("blue", "ada", "bob", 20, 25), ("blue", "bob", "bob", 0, 40), ("blue", "bob", "bob", 50, None),
            ("red", "ada", "ada", 10, 20), ("red", "ada", "ada", 25, 30), ("red", "cy", "cy", 5, 8),
        ]
        self.check_twice(by_worth, wanted, ONE, 4, 6)
        wanted[0] = ("blue", "bob", "ada", 20, 25)
        wanted[:3] = sorted(wanted[:3], key=lambda row: row[:4])
        self.check_twice(by_worth, wanted, ONE, 6, 4)

    def test_one_sheet_at_one_knowing(self):
        row = [("put", "b", "w", 3, None), ("put", "a", "w", 0, 5), ("put", "c", "v", 0, 5)]
        wanted = [
            ("v", "c", "c", 0, 5), ("w", "a", "a", 0, 5), ("w", "a", "b", 3, 5), ("w", "b", "a", 3, 5),
            ("w", "b", "b", 3, None),
        ]
        self.check_twice(by_worth, wanted, row, 3, 3)

    def test_nothing_in_common(self):
        self.check(by_worth, [], [], [])
        self.check(by_worth, [], ONE, [])
        self.check(by_worth, [], [], OTHER)
        self.check(by_worth, [], knowing=0)
        self.check(by_worth, [], other_knowing=0)
        self.check_lines(by_worth, [(0, 9, "a")], [(0, 9, "b")], [])
        self.check_lines(by_worth, [(0, 5, "a"), (5, 9, "b")], [(0, 5, "b"), (5, 9, "a")], [])
        self.check_lines(by_worth, [(0, 5, "a")], [(7, 9, "a")], [])

    def test_stretches_that_touch(self):
        self.check_lines(by_worth, [(0, 5, "a")], [(5, 9, "a")], [])
        self.check_lines(by_worth, [(0, LAST, "a")], [(LAST, None, "a")], [])

    def test_stretches_that_overlap(self):
        self.check_lines(by_worth, [(0, 6, "a")], [(5, 9, "a")], [("a", "ada", "ada", 5, 6)])
        self.check_lines(by_worth, [(0, 9, "a")], [(3, 5, "a")], [("a", "ada", "ada", 3, 5)])
        self.check_lines(by_worth, [(3, 5, "a")], [(3, 5, "a")], [("a", "ada", "ada", 3, 5)])
        self.check_lines(by_worth, [(0, 1, "a")], [(0, None, "a")], [("a", "ada", "ada", 0, 1)])

    def test_without_an_end(self):
        self.check_lines(by_worth, [(0, None, "a")], [(7, None, "a")], [("a", "ada", "ada", 7, None)])
        self.check_lines(by_worth, [(0, None, "a")], [(LAST, None, "a")], [("a", "ada", "ada", LAST, None)])
        self.check_lines(by_worth, [(0, None, "a")], [(7, LAST, "a")], [("a", "ada", "ada", 7, LAST)])

    def test_neighbours(self):
        # Of one worth: told in two parts, but one stretch.
        self.check_lines(by_worth, [(0, 5, "a"), (5, 9, "a")], [(0, 9, "a")], [("a", "ada", "ada", 0, 9)])
        self.check_lines(by_worth, [(0, 5, "a"), (5, 9, "a")], [(0, 3, "a"), (3, 9, "a")], [("a", "ada", "ada", 0, 9)])
        # Of two worths.
        wanted = [("a", "ada", "ada", 5, 9), ("b", "ada", "ada", 0, 5)]
        self.check_lines(by_worth, [(0, 5, "b"), (5, 9, "a")], [(0, 5, "b"), (5, 9, "a")], wanted)
        # Of one worth, but with a gap, or another worth, between.
        wanted = [("a", "ada", "ada", 0, 5), ("a", "ada", "ada", 6, 9)]
        self.check_lines(by_worth, [(0, 5, "a"), (6, 9, "a")], [(0, 9, "a")], wanted)
        self.check_lines(by_worth, [(0, 5, "a"), (5, 6, "b"), (6, 9, "a")], [(0, 9, "a")], wanted)
        # Neighbours of two pairs of keys.
        row = [("put", "x", "a", 0, 5), ("put", "y", "a", 5, 9)]
        wanted = [("a", "x", "x", 0, 5), ("a", "y", "x", 5, 9)]
        self.check(by_worth, wanted, row, [("put", "x", "a", 0, 9)])

    def test_several_keys_of_either(self):
        row = [("put", key, "w", begin, begin + 10) for key, begin in (("b", 5), ("a", 0), ("c", 40))]
        other = [("put", key, "w", begin, begin + 10) for key, begin in (("e", 12), ("b", 8), ("d", 0))]
        wanted = [
            ("w", "a", "b", 8, 10), ("w", "a", "d", 0, 10), ("w", "b", "b", 8, 15), ("w", "b", "d", 5, 10),
            ("w", "b", "e", 12, 15),
        ]
        self.check(by_worth, wanted, row, other)

    def test_the_order(self):
        row = [("put", key, "w", begin, begin + 1) for begin in (100, 9, 20) for key in ("z", "ba", "b")]
        wanted = [
            ("w", key, other, begin, begin + 1)
            for key in ("b", "ba", "z") for other in ("b", "ba", "z") for begin in (9, 20, 100)
        ]
        self.check(by_worth, wanted, row, row[::-1])
        row += [("put", "z", "a", 500, None), ("put", "b", "z", 500, None)]
        wanted = [("a", "z", "z", 500, None)] + wanted + [("z", "b", "b", 500, None)]
        self.check(by_worth, wanted, row, row)


class ByMoments(Joins):
    def test_all_short_lines(self):
        for row, other in product(rows(3), repeat=2):
            tellings, others = [
                [("put", "x", worth, begin, end) for begin, end, worth in line_of(told)] for told in (row, other)
            ]
            table, other_table = table_read(tellings, 3), table_read(others, 3)
            self.check(by_key, by_key_read(table, other_table), tellings, others)
            self.check(by_worth, by_worth_read(table, other_table), tellings, others)

    def test_long_rows_at_all_knowings(self):
        found = long_rows(6, 14, 7)
        for row, other_row in zip(found, found[1:] + found[:1]):
            sheets = [(sheet_told(kind, row), sheet_told(kind, other_row)) for kind in KINDS]
            for knowing, other_knowing in product(range(15), repeat=2):
                table, other_table = table_read(row[:knowing], 9), table_read(other_row[:other_knowing], 9)
                again = table_read(row[:other_knowing], 9)
                for join, read in ((by_key, by_key_read), (by_worth, by_worth_read)):
                    for sheet, other in sheets:
                        told = join(sheet, knowing, other, other_knowing)
                        self.assertEqual(told, read(table, other_table))
                        self.assertEqual(join(sheet, knowing, sheet, other_knowing), read(table, again))


class Refusals(Joins):
    def no_knowings(self, sheet):
        return (-1, -2, -HUGE, sheet.knowings() + 1, sheet.knowings() + 2, HUGE)

    def test_no_knowings(self):
        for join, kind, row, other_row in product((by_key, by_worth), KINDS, ([], ONE), ([], OTHER)):
            sheet, other = sheet_told(kind, row), sheet_told(Tiled, other_row)
            for knowing in self.no_knowings(sheet):
                self.check_refused(NoKnowing, lambda: join(sheet, knowing, other, 0))
                self.check_refused(NoKnowing, lambda: join(sheet, knowing, other, len(other_row)))
                self.check_refused(NoKnowing, lambda: join(sheet, knowing, sheet, 0))
            for knowing in self.no_knowings(other):
                self.check_refused(NoKnowing, lambda: join(sheet, 0, other, knowing))
                self.check_refused(NoKnowing, lambda: join(sheet, len(row), other, knowing))
                self.check_refused(NoKnowing, lambda: join(other, 0, other, knowing))
            for knowing, other_knowing in product(self.no_knowings(sheet), self.no_knowings(other)):
                self.check_refused(NoKnowing, lambda: join(sheet, knowing, other, other_knowing))
            self.assertEqual((sheet.knowings(), other.knowings()), (len(row), len(other_row)))

    def test_each_knowing_is_of_its_own_sheet(self):
        for join, kind in product((by_key, by_worth), KINDS):
            sheet, other = sheet_told(kind, ONE), sheet_told(kind, OTHER)
            self.assertEqual(join(sheet, 6, other, 0), [])
            self.check_refused(NoKnowing, lambda: join(sheet, 0, other, 6))

    def test_the_first_sheet_ahead_of_the_other(self):
        for join, kind in product((by_key, by_worth), KINDS):
            sheet, other = sheet_told(kind, ONE), From(sheet_told(kind, OTHER), 3)
            self.check_refused(Forgotten, lambda: join(other, 2, sheet, 7))
            self.check_refused(NoKnowing, lambda: join(sheet, 7, other, 2))
            self.check_refused(Forgotten, lambda: join(sheet, 6, other, 2))
            self.check_refused(NoKnowing, lambda: join(other, 6, other, 2))
            self.check_refused(Forgotten, lambda: join(other, 2, other, 6))

    def test_from_a_later_first_knowing_on(self):
        for join, kind in product((by_key, by_worth), KINDS):
            sheet, other = sheet_told(kind, ONE), sheet_told(kind, OTHER)
            for knowing in range(3, 6):
                wanted = join(sheet, 6, other, knowing)
                self.assertEqual(join(sheet, 6, From(other, 3), knowing), wanted)


class AskersOwn(Case):
    def calls(self):
        for join, kind in product((by_key, by_worth), KINDS):
            sheet, other = sheet_told(kind, ONE), sheet_told(kind, OTHER)
            yield [sheet, other], lambda join=join, sheet=sheet, other=other: join(sheet, 6, other, 5)
            yield [sheet, sheet], lambda join=join, sheet=sheet: join(sheet, 6, sheet, 4)

    def view(self, sheets):
        return [
            [(sheet.keys_at(knowing), [sheet.line_at(key, knowing) for key in ("ada", "bob", "cy", "dot")])
             for knowing in range(sheet.knowings() + 1)]
            for sheet in sheets
        ]

    def test_what_the_asker_does_changes_nothing(self):
        for sheets, call in self.calls():
            before = self.view(sheets)
            self.check_own(call)
            self.assertEqual(self.view(sheets), before)

    def test_told_earlier_stay(self):
        for sheets, call in self.calls():
            told = call()
            wanted = list(told)
            for sheet, key in product(sheets, ("ada", "bob", "dot")):
                sheet.tell(("put", key, "green", 0, None))
            self.assertEqual(told, wanted)
            self.assertEqual(call(), wanted)


class Sizes(Joins):
    def test_three_hundred_keys(self):
        keys = ["k" + "abcdefghijklmnopqrst"[number // 15] + "abcdefghijklmno"[number % 15] for number in range(300)]
        row = [("put", key, "w", number, None) for number, key in enumerate(keys)]
        sheet = sheet_told(Tiled, row)
        self.assertEqual(len(by_key(sheet, 300, sheet, 300)), 300)
        told = by_worth(sheet, 300, sheet, 300)
        self.assertEqual(len(told), 90000)
        self.assertEqual(told[301], ("w", keys[1], keys[1], 1, None))


if __name__ == "__main__":
    unittest.main()
