"""What the document says of lines, sheets and books, moment by moment and knowing by knowing; and what tests share.

A line is read as a row of worths, the last one standing for ever; a sheet as the list of its tellings; a table, a
dict from keys to lines, as a dict from keys to such rows.
"""

import unittest
from itertools import product
from random import Random

from twotimes.books import Book
from twotimes.errors import (
    Broken, Forgotten, NoFit, NoKnowing, NoLog, NoName, NoRow, NoSheet, NoStretch, TimesError,
)
from twotimes.rules import Alone, Named, Rule, Still
from twotimes.tiles import tiles_of

LAST = 10 ** 12
HUGE = 10 ** 5000
# Further than any bound that the rows below can make.
FAR = (10 ** 6, LAST)
REFUSALS = (NoName, NoStretch, NoKnowing, Forgotten, NoSheet, Broken, NoFit, NoLog, NoRow)
NO_NAMES = (
    "", "abcdefghi", "A", "aB", "a1", "1", " ", "a ", " a", "a b", "a\n", "-", "\u00e4", "\uff41",
    None, 0, 5, HUGE, True, 1.5, b"a", [], ["a"], ("a",), {}, object(),
)
# Words that are no numbers.
NO_NUMBERS = (
    "00", "01", "007", "0000000000001", "10000000000000", "12345678901234", "00000000000000", "-1", "+1", "-0", "--",
    "1-", "1.0", "1e3", "0x1", "1_0", "a", "1a", "a1", "0a", "None", "True", "\u0663", "\u00b2", "\uff11", "1,", "1\n",
)
NO_STRETCHES = (
    (-1, 5), (-1, None), (-HUGE, None), (LAST + 1, None), (LAST + 1, LAST + 2), (HUGE, None),
    (False, 5), (True, 5), (True, None), ("0", 5), ("a", None), (None, 5), (None, None), (0.0, 5), ([], 5),
    (5, 5), (5, 4), (5, 0), (5, -1), (0, 0), (LAST, LAST), (0, LAST + 1), (LAST, LAST + 1), (0, HUGE),
    (0, True), (0, False), (0, "5"), (0, ""), (0, "-"), (0, 5.0), (0, []),
)
# The sheets of a book, and a row that it takes with the rules below.
NAMES = ["one", "two", "empty"]
ROW = [
    ("two", ("put", "red", "warm", 0, None)),
    ("one", ("put", "ada", "red", 10, 20)),
    ("two", ("put", "blue", "cold", 5, 50)),
    ("one", ("put", "bob", "blue", 15, 30)),
    ("one", ("clear", "ada", 12, 15)),
    ("two", ("clear", "blue", 40, None)),
    ("one", ("put", "cy", "red", 25, None)),
    ("one", ("clear", "never", 0, None)),
]


class Case(unittest.TestCase):
    def check_refused(self, kind, call):
        for taken in (TimesError, ValueError, kind):
            with self.assertRaises(taken) as caught:
                call()
            self.assertEqual([other for other in REFUSALS if isinstance(caught.exception, other)], [kind])
        return caught.exception

    # Of a call that tells a list which isn't empty: what is told is the asker's own.
    def check_own(self, call):
        told, again = call(), call()
        wanted = list(again)
        self.assertIs(type(told), list)
        self.assertIsNot(told, again)
        for thing in told:
            self.assertFalse(isinstance(thing, tuple) and any(thing is other for other in again))
        told[0] = None
        told.append(None)
        self.assertEqual(call(), wanted)
        call().clear()
        self.assertEqual(call(), wanted)
        self.assertEqual(again, wanted)

    # The same of a call that tells a table: the dict and each list in it.
    def check_own_table(self, call):
        told, again = call(), call()
        wanted = {key: list(line) for key, line in again.items()}
        self.assertIs(type(told), dict)
        self.check_apart(list(told.values()) + list(again.values()))
        for key in told:
            self.check_own(lambda: call()[key])
            told[key].append((0, 1, "bad"))
        told["bad"] = []
        self.assertEqual(call(), wanted)
        call().clear()
        self.assertEqual((call(), again), (wanted, wanted))

    # Tellings that a book of the sheets and rules below refuses at each knowing of ROW.
    def check_refuses_some(self, book):
        self.check_refused(NoSheet, lambda: book.tell("three", ("put", "ada", "red", 0, 5)))
        self.check_refused(NoName, lambda: book.tell("two", ("put", "Ada", "red", 0, 5)))
        self.check_refused(NoStretch, lambda: book.tell("one", ("put", "ada", "red", 5, 5)))
        self.check_refused(Broken, lambda: book.tell("one", ("put", "new", "none", 0, 5)))

    # Of a call that is handed names and rules: it doesn't change these lists.
    def check_stay(self, call):
        names, given = ["two", "one", "empty"], rules()
        before = list(given)
        call(names, given)
        self.assertEqual((names, len(given)), (["two", "one", "empty"], len(before)))
        self.assertTrue(all(rule is other for rule, other in zip(given, before)))

    # Of lists: no two of them are one, and no two of their tuples.
    def check_apart(self, lists):
        for things in (lists, [thing for told in lists for thing in told if isinstance(thing, tuple)]):
            self.assertEqual(len({id(thing) for thing in things}), len(things))


def line_of(row):
    line = []
    for moment, worth in enumerate(row):
        end = moment + 1 if moment + 1 < len(row) else None
        if worth is None:
            continue
        if line and line[-1][1] == moment and line[-1][2] == worth:
            line[-1] = (line[-1][0], end, worth)
        else:
            line.append((moment, end, worth))
    return line


def has(begin, end, moment):
    return begin <= moment and (end is None or moment < end)


def rows(length, worths=(None, "a", "b")):
    return [list(row) for row in product(worths, repeat=length)]


def stretches(length):
    ends = list(range(1, length)) + [None]
    return [(begin, end) for begin in range(length) for end in ends if end is None or begin < end]


def moments(length):
    return tuple(range(length)) + FAR


def worth_read(tellings, key, moment):
    worth = None
    for telling in tellings:
        if telling[1] == key and has(telling[-2], telling[-1], moment):
            worth = telling[2] if telling[0] == "put" else None
    return worth


# The moments from 0 to below length must have every bound of the tellings among them.
def line_read(tellings, key, length):
    return line_of([worth_read(tellings, key, moment) for moment in range(length)])


def keys_read(tellings, length):
    return sorted(key for key in {telling[1] for telling in tellings} if line_read(tellings, key, length))


# Of a sheet that knows all from its first knowing on.
def tiles_read(tellings, length, first=0):
    tiles = []
    for key in {telling[1] for telling in tellings}:
        lines = [line_read(tellings[:knowing], key, length) for knowing in range(len(tellings) + 1)]
        for since in range(first, len(lines)):
            for run in lines[since]:
                if since == first or run not in lines[since - 1]:
                    later = [knowing for knowing in range(since, len(lines)) if run not in lines[knowing]]
                    until = later[0] if later else None
                    tiles.append((key, run[2], run[0], run[1], since, until))
    return sorted(tiles, key=lambda tile: (tile[0], tile[4], tile[2]))


def story_read(tellings, key, moment, first=0):
    worths = [worth_read(tellings[:knowing], key, moment) for knowing in range(len(tellings) + 1)]
    return line_of([None] * first + worths[first:])


def table_read(tellings, length):
    table = {}
    for key in {telling[1] for telling in tellings}:
        row = [worth_read(tellings, key, moment) for moment in range(length)]
        if any(row):
            table[key] = row
    return table


def by_key_read(table, other):
    told = []
    for key in sorted(set(table) & set(other)):
        pairs = [None if None in pair else pair for pair in zip(table[key], other[key])]
        told.extend((key, begin, end) + pair for begin, end, pair in line_of(pairs))
    return told


def by_worth_read(table, other):
    told = []
    for key, other_key in product(table, other):
        alike = [one if one == two else None for one, two in zip(table[key], other[other_key])]
        told.extend((worth, key, other_key, begin, end) for begin, end, worth in line_of(alike))
    return sorted(told, key=lambda row: row[:4])


def changes_read(table, later):
    told = []
    for key in sorted(set(table) | set(later)):
        nothing = [None] * len((table.get(key) or later.get(key)))
        pairs = list(zip(table.get(key, nothing), later.get(key, nothing)))
        unlike = [None if then == now else (then, now) for then, now in pairs]
        told.extend((key, begin, end) + pair for begin, end, pair in line_of(unlike))
    return told


# The first place at which a key breaks a rule, by what the rule says of a key and a moment.
def place_read(table, length, breaks):
    for moment in range(length):
        for key in sorted(table):
            if table[key][moment] is not None and breaks(key, moment):
                return (moment, key)
    return None


def alone_read(table, length):
    def shares(key, moment):
        return any(table[other][moment] == table[key][moment] for other in table if other != key)

    return place_read(table, length, shares)


def named_read(table, other, length):
    def is_without(key, moment):
        worth = table[key][moment]
        return worth not in other or other[worth][moment] is None

    return place_read(table, length, is_without)


def still_read(table, length):
    def is_another(key, moment):
        return any(worth not in (None, table[key][moment]) for worth in table[key][:moment])

    return place_read(table, length, is_another)


# Rows of no form, made of one that has a form.
def spoilt(row):
    words = row.split(" ")
    told = ["", " ", "  ", "x", "-", "now", "\n", row + " ", " " + row, row + " x", row + " 0", row + " -", "x " + row]
    told += [row + "\n", "\n" + row, row + "\t", row.replace(" ", "\t"), row.replace(" ", ""), row + "\n" + row]
    others = (words[0].upper(), words[0].title(), words[0] + "s", "-", "tell")
    told += [" ".join([first] + words[1:]) for first in others]
    for at in range(len(words)):
        told.append(" ".join(words[:at] + words[at + 1:]))
        told.append(" ".join(words[:at + 1]) + " ")
        told.append(" ".join(words[:at] + [""] + words[at:]))
        told.append(" ".join(words[:at] + ["x"] + words[at:]))
    return [other for other in told if other != row]


def tellings_of(key, length, worths=("a", "b")):
    told = []
    for begin, end in stretches(length):
        told.append(("clear", key, begin, end))
        told.extend(("put", key, worth, begin, end) for worth in worths)
    return told


# The same rows in every run.
def long_rows(many, longest, length):
    chance = Random(7)
    choice = [telling for key in ("x", "y", "z") for telling in tellings_of(key, length)]
    return [[chance.choice(choice) for telling in range(longest)] for row in range(many)]


def sheet_told(kind, tellings):
    sheet = kind()
    for telling in tellings:
        sheet.tell(telling)
    return sheet


class From:
    """A sheet that knows only from a later knowing on, made of nothing but the interface."""

    def __init__(self, sheet, first):
        self.sheet, self.start = sheet, first

    def first(self):
        return self.start

    def knowings(self):
        return self.sheet.knowings()

    def asked(self, knowing):
        if 0 <= knowing < self.start:
            raise Forgotten("asked below its first knowing")
        return knowing

    def worth_at(self, key, moment, knowing):
        return self.sheet.worth_at(key, moment, self.asked(knowing))

    def line_at(self, key, knowing):
        return self.sheet.line_at(key, self.asked(knowing))

    def keys_at(self, knowing):
        return self.sheet.keys_at(self.asked(knowing))


def rules():
    return [Alone("one"), Named("one", "two"), Still("two")]


def book_told(row=ROW, given=None):
    book = Book(NAMES, rules() if given is None else given)
    for name, telling in row:
        book.tell(name, telling)
    return book


def told_to(row, name):
    return [telling for other, telling in row if other == name]


def sheet_view(sheet):
    lines = []
    for knowing in range(sheet.first(), sheet.knowings() + 1):
        keys = sheet.keys_at(knowing)
        asked = keys + ["ada", "bob", "cy", "never", "red", "blue"]
        lines.append((keys, [sheet.line_at(key, knowing) for key in asked]))
    return (sheet.knowings(), sheet.first(), lines, sheet.tiles(), tiles_of(sheet))


def view(book):
    known = [book.known(knowing) for knowing in range(book.knowings() + 1)]
    sheets = [sheet_view(book.sheet(name)) for name, many in book.known(0)]
    return (book.knowings(), book.tellings(), known, sheets)


class Always(Rule):
    """A rule that is always broken."""

    def broken(self, tables):
        return (7, "ada")


# Names and rules that were handed in, made others behind it.
def change_handed_in(names, given):
    names[:] = ["three"]
    given[:] = [Always()]


# Rules beside what they say, moment by moment, of the tables of a book; and which of them go together.
RULES = (
    (Alone("one"), lambda tables, length: alone_read(tables["one"], length)),
    (Named("one", "two"), lambda tables, length: named_read(tables["one"], tables["two"], length)),
    (Still("two"), lambda tables, length: still_read(tables["two"], length)),
    (Still("one"), lambda tables, length: still_read(tables["one"], length)),
    (Named("two", "two"), lambda tables, length: named_read(tables["two"], tables["two"], length)),
    (Rule(), lambda tables, length: None),
)
SETS = ((), (0,), (1,), (2,), (0, 1), (1, 0), (0, 2), (1, 2, 0), (5, 3, 1), (4, 3), (4, 5, 1, 0), (1, 0, 2, 3, 4))


def long_book_row(chance, many):
    ones = [("one", telling) for key in ("x", "y", "z") for telling in tellings_of(key, 4)]
    twos = [("two", telling) for key in ("a", "b") for telling in tellings_of(key, 4)]
    return [chance.choice(ones if chance.random() < 0.5 else twos) for number in range(many)]


# Which of some rules, of those above, is broken behind a row: (its number, moment, key), or None.
def broken_read(some, row):
    tables = {name: table_read(told_to(row, name), 5) for name in ("one", "two")}
    places = [read(tables, 5) for rule, read in some]
    broken = [(number,) + place for number, place in enumerate(places) if place is not None]
    return broken[0] if broken else None
