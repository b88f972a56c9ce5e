"""All stages together: rows of tellings, over sheets, books, logs and desks, gone through one by one."""

import unittest
from itertools import product
from random import Random

from by_moments import (
    Case, FAR, RULES, SETS, broken_read, by_key_read, by_worth_read, changes_read, has, keys_read, line_read,
    long_book_row, long_rows, moments, sheet_told, story_read, table_read, tiles_read, told_to, worth_read,
)
from twotimes.asks import all_at, story, when, who
from twotimes.books import Book
from twotimes.changes import changed, changes, joined, table_at, turned
from twotimes.desk import Desk
from twotimes.errors import Broken, Forgotten, NoKnowing, TimesError
from twotimes.forgets import Short
from twotimes.joins import by_key, by_worth
from twotimes.logs import come_up, line_of, log_of, telling_in
from twotimes.rules import Alone, Named
from twotimes.sheets import Sheet
from twotimes.tiles import Tiled, tiles_of

# The bounds of all rows here lie below it.
LENGTH = 5
KEYS = ("x", "y", "z", "a", "b", "never")
NAMES = ["one", "two"]


def shown(pieces):
    return " ".join(f"{begin}-{'-' if end is None else end}:{worth}" for begin, end, worth in pieces) or "-"


class Whole(Case):
    # A row over a book, its log and a desk, each answer as it is read; told are the tellings that were taken.
    def check_row(self, some, row):
        given = [rule for rule, read in some]
        book, desk, taken = Book(NAMES, given), Desk(NAMES, given), []
        for name, telling in row:
            line = line_of(name, telling)
            self.assertEqual(telling_in(line), (name, telling))
            place = broken_read(some, taken + [(name, telling)])
            if place is None:
                taken.append((name, telling))
                self.assertEqual((book.tell(name, telling), desk.say(line)), (len(taken), str(len(taken))))
            else:
                for tell in (lambda: book.tell(name, telling), lambda: desk.say(line)):
                    with self.assertRaises(Broken) as caught:
                        tell()
                    error = caught.exception
                    self.assertEqual((error.rule, error.moment, error.key), place)
            self.assertEqual(book.tellings(), taken)
        return book, desk, taken

    def check_answers(self, sheet, tellings, first=0):
        self.assertEqual((sheet.first(), sheet.knowings()), (first, len(tellings)))
        for knowing in range(first, len(tellings) + 1):
            known = tellings[:knowing]
            keys = keys_read(known, LENGTH)
            self.assertEqual(sheet.keys_at(knowing), keys)
            lines = {key: line_read(known, key, LENGTH) for key in KEYS}
            self.assertEqual(table_at(sheet, knowing), {key: lines[key] for key in keys})
            for key in KEYS:
                self.assertEqual(sheet.line_at(key, knowing), lines[key])
            for moment in moments(LENGTH):
                worths = [(key, worth_read(known, key, moment)) for key in sorted(KEYS)]
                self.assertEqual([(key, sheet.worth_at(key, moment, knowing)) for key in sorted(KEYS)], worths)
                self.assertEqual(all_at(sheet, moment, knowing), [pair for pair in worths if pair[1] is not None])
            for worth in ("a", "b", "never"):
                held = [(key, begin, end) for key in sorted(KEYS) for begin, end, each in lines[key] if each == worth]
                self.assertEqual(who(sheet, worth, knowing), held)
                for key in KEYS:
                    mine = [(begin, end) for other, begin, end in held if other == key]
                    self.assertEqual(when(sheet, key, worth, knowing), mine)
        for key, moment in product(KEYS, moments(LENGTH)):
            self.assertEqual(story(sheet, key, moment), story_read(tellings, key, moment, first))
        self.assertEqual(tiles_of(sheet), tiles_read(tellings, LENGTH, first))

    # Each moment and knowing with a worth is in just one tile of its key, which has that worth; and no other is in one.
    def check_parted(self, sheet, tellings, first=0):
        self.assertEqual(sheet.tiles(), tiles_read(tellings, LENGTH, first))
        for key, moment, knowing in product(KEYS, moments(LENGTH), range(first, len(tellings) + 1)):
            worths = [tile[1] for tile in sheet.tiles()
                      if tile[0] == key and has(tile[2], tile[3], moment) and has(tile[4], tile[5], knowing)]
            worth = worth_read(tellings[:knowing], key, moment)
            self.assertEqual(worths, [] if worth is None else [worth])

    def check_differences(self, sheet, tellings, first=0):
        knowings = range(first, len(tellings) + 1)
        tables = {knowing: table_read(tellings[:knowing], LENGTH) for knowing in knowings}
        for knowing, later in product(knowings, repeat=2):
            some = changes(sheet, knowing, later)
            self.assertEqual(some, changes_read(tables[knowing], tables[later]))
            self.assertEqual(changed(table_at(sheet, knowing), some), table_at(sheet, later))
            self.assertEqual(changed(table_at(sheet, later), turned(some)), table_at(sheet, knowing))
            middle = (knowing * 7 + later * 3) % len(knowings) + first
            self.assertEqual(joined(changes(sheet, knowing, middle), changes(sheet, middle, later)), some)

    def check_joins(self, sheet, tellings, other, others):
        for knowing, other_knowing in product(range(len(tellings) + 1), range(len(others) + 1)):
            table = table_read(tellings[:knowing], LENGTH)
            other_table = table_read(others[:other_knowing], LENGTH)
            self.assertEqual(by_key(sheet, knowing, other, other_knowing), by_key_read(table, other_table))
            self.assertEqual(by_worth(sheet, knowing, other, other_knowing), by_worth_read(table, other_table))

    def check_rules_hold(self, book, some, taken):
        for knowing in range(len(taken) + 1):
            known = book.known(knowing)
            self.assertEqual(known, [(name, len(told_to(taken[:knowing], name))) for name in NAMES])
            tables = {}
            for name, many in known:
                sheet = book.sheet(name)
                worths = {key: [sheet.worth_at(key, moment, many) for moment in range(LENGTH)] for key in KEYS}
                tables[name] = {key: row for key, row in worths.items() if any(row)}
            self.assertEqual([read(tables, LENGTH) for rule, read in some], [None] * len(some))

    def check_desk(self, desk, name, tellings):
        for knowing, key in product(range(len(tellings) + 1), KEYS):
            known = tellings[:knowing]
            self.assertEqual(desk.say(f"line {name} {key} {knowing}"), shown(line_read(known, key, LENGTH)))
            for moment in moments(LENGTH):
                worth = worth_read(known, key, moment)
                self.assertEqual(desk.say(f"what {name} {key} {moment} {knowing}"), worth or "-")
        for moment in moments(LENGTH):
            worths = [(key, worth_read(tellings, key, moment)) for key in sorted(KEYS)]
            held = [f"{key}:{worth}" for key, worth in worths if worth is not None]
            self.assertEqual(desk.say(f"all {name} {moment} now"), " ".join(held) or "-")
            for key in KEYS:
                self.assertEqual(desk.say(f"story {name} {key} {moment}"), shown(story_read(tellings, key, moment)))
        self.assertEqual(desk.say(f"tiles {name}"), str(len(tiles_read(tellings, LENGTH))))

    # Of any beginning of the log the book comes up that stood then.
    def check_log(self, book, given, taken):
        text = log_of(book)
        self.assertEqual([telling_in(line) for line in text.splitlines()], taken)
        for place in range(0, len(text) + 1):
            many = text[:place].count("\n")
            other = come_up(NAMES, given, text[:place])
            self.assertEqual((other.tellings(), other.known(many)), (taken[:many], book.known(many)))
            for name, knowing in book.known(many):
                self.assertEqual(table_at(other.sheet(name), knowing), table_at(book.sheet(name), knowing))

    def test_books(self):
        chance = Random(11)
        many = 0
        for numbers in SETS:
            some = [RULES[number] for number in numbers]
            book, desk, taken = self.check_row(some, long_book_row(chance, 18))
            many += len(taken)
            self.check_rules_hold(book, some, taken)
            self.check_log(book, [rule for rule, read in some], taken)
            for name in NAMES:
                tellings = told_to(taken, name)
                self.check_answers(book.sheet(name), tellings)
                self.check_parted(book.sheet(name), tellings)
                self.check_differences(book.sheet(name), tellings)
                self.check_desk(desk, name, tellings)
            self.check_joins(*[thing for name in NAMES for thing in (book.sheet(name), told_to(taken, name))])
        # So that the rows above are no idle ones.
        self.assertGreater(many, 8 * len(SETS))

    def test_sheets_of_each_kind(self):
        for row in long_rows(4, 12, 4):
            plain, tiled, short = [sheet_told(kind, row) for kind in (Sheet, Tiled, Short)]
            for sheet in (plain, tiled, short):
                self.check_answers(sheet, row)
                self.check_differences(sheet, row)
            self.check_joins(plain, row, tiled, row)
            self.check_parted(tiled, row)
            for first in (0, 1, 5, 6, 11, 12):
                short.forget(first)
                self.check_answers(short, row, first)
                self.check_parted(short, row, first)
                self.check_differences(short, row, first)
                for knowing in range(first):
                    self.check_refused(Forgotten, lambda: short.keys_at(knowing))

    def test_forgetting_while_more_is_told(self):
        for row in long_rows(4, 12, 4):
            short = Short()
            for number, telling in enumerate(row):
                self.assertEqual(short.tell(telling), number + 1)
                if number % 3 == 2:
                    before, first = short.tiles(), number - 1
                    wanted = tiles_read(row[:number + 1], LENGTH, first)
                    self.assertEqual(short.forget(first), len(before) - len(wanted))
                    self.assertEqual(short.tiles(), wanted)
                    self.check_answers(short, row[:number + 1], first)


class NothingIsLost(Case):
    # Everything that was told early stays as it was, whatever is told and asked later.
    def test_told_early(self):
        chance = Random(5)
        book, told, wanted = Book(NAMES, []), [], []
        for name, telling in long_book_row(chance, 20):
            for kept in (told, wanted):
                kept.append(self.everything(book))
            book.tell(name, telling)
        self.assertEqual(told, wanted)
        lists = [each for kept in told + wanted for each in kept if isinstance(each, list)]
        self.check_apart(lists)
        tables = [each for kept in told + wanted for each in kept if isinstance(each, dict)]
        self.check_apart([line for table in tables for line in table.values()])

    def everything(self, book):
        told = [log_of(book), book.tellings(), book.known(book.knowings())]
        for name in NAMES:
            sheet = book.sheet(name)
            last = sheet.knowings()
            told += [sheet.keys_at(last), sheet.line_at("x", last), sheet.tiles(), tiles_of(sheet)]
            told += [story(sheet, "x", 1), all_at(sheet, 1, last), when(sheet, "x", "a", last), who(sheet, "a", last)]
            told += [by_key(sheet, last, sheet, last // 2), by_worth(sheet, last, sheet, last // 2)]
            told += [table_at(sheet, last), changes(sheet, 0, last), turned(changes(sheet, 0, last))]
            told += [changed(table_at(sheet, last), []), joined(changes(sheet, 0, last), [])]
        return told

    # The answers for a knowing are those that were given when it was the last one.
    def test_elder_knowings(self):
        for row, kind in product(long_rows(3, 15, 4), (Sheet, Tiled, Short)):
            sheet, told = kind(), []
            for telling in row:
                told.append(self.at(sheet, sheet.knowings()))
                sheet.tell(telling)
            self.assertEqual([self.at(sheet, knowing) for knowing in range(len(row))], told)

    def at(self, sheet, knowing):
        held = [all_at(sheet, moment, knowing) for moment in tuple(range(LENGTH)) + FAR]
        return (table_at(sheet, knowing), held, who(sheet, "a", knowing), by_worth(sheet, knowing, sheet, knowing))

    def test_refused_by_one_class_in_all_stages(self):
        book, desk = Book(NAMES, [Alone("one"), Named("one", "two")]), Desk(NAMES, [])
        for call in (
            lambda: book.tell("one", ("put", "x", "a", 0, None)), lambda: book.tell("three", ()), lambda: book.known(1),
            lambda: changes(book.sheet("one"), 0, 1), lambda: changed({}, [("x", 0, 1, "a", "b")]),
            lambda: Short().forget(1), lambda: telling_in("put"), lambda: come_up(NAMES, [], "put\n"),
            lambda: desk.say("tiles"), lambda: desk.say("tiles three"), lambda: desk.say("line one x 1"),
        ):
            with self.assertRaises(TimesError):
                call()
        self.check_refused(NoKnowing, lambda: desk.say("line one x 1"))


if __name__ == "__main__":
    unittest.main()
