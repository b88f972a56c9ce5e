"""What the document says of lines and sheets, moment by moment and knowing by knowing; and checks that tests share.

A line is read as a row of worths, the last one standing for ever; a sheet as the list of its tellings; a table, a
dict from keys to lines, as a dict from keys to such rows.
"""

import unittest
from itertools import product
from random import Random

from twotimes.errors import (
    Broken, Forgotten, NoFit, NoKnowing, NoLog, NoName, NoRow, NoSheet, NoStretch, TimesError,
)

LAST = 10 ** 12
HUGE = 10 ** 5000
# Further than any bound that the rows below can make.
FAR = (10 ** 6, LAST)
REFUSALS = (NoName, NoStretch, NoKnowing, Forgotten, NoSheet, Broken, NoFit, NoLog, NoRow)
NO_NAMES = (
    "", "abcdefghi", "A", "aB", "a1", "1", " ", "a ", " a", "a b", "a\n", "-", "\u00e4", "\uff41",
    None, 0, 5, HUGE, True, 1.5, b"a", [], ["a"], ("a",), {}, object(),
)
NO_STRETCHES = (
    (-1, 5), (-1, None), (-HUGE, None), (LAST + 1, None), (LAST + 1, LAST + 2), (HUGE, None),
    (False, 5), (True, 5), (True, None), ("0", 5), ("a", None), (None, 5), (None, None), (0.0, 5), ([], 5),
    (5, 5), (5, 4), (5, 0), (5, -1), (0, 0), (LAST, LAST), (0, LAST + 1), (LAST, LAST + 1), (0, HUGE),
    (0, True), (0, False), (0, "5"), (0, ""), (0, "-"), (0, 5.0), (0, []),
)


class Case(unittest.TestCase):
    def check_refused(self, kind, call):
        for taken in (TimesError, ValueError, kind):
            with self.assertRaises(taken) as caught:
                call()
            self.assertEqual([other for other in REFUSALS if isinstance(caught.exception, other)], [kind])
        return caught.exception

    # Of a call that tells a list which isn't empty: what is told is the asker's own.
    def check_own(self, call):
        told, again = call(), call()
        wanted = list(again)
        self.assertIs(type(told), list)
        self.assertIsNot(told, again)
        for thing in told:
            self.assertFalse(isinstance(thing, tuple) and any(thing is other for other in again))
        told[0] = None
        told.append(None)
        self.assertEqual(call(), wanted)
        call().clear()
        self.assertEqual(call(), wanted)
        self.assertEqual(again, wanted)


def line_of(row):
    line = []
    for moment, worth in enumerate(row):
        end = moment + 1 if moment + 1 < len(row) else None
        if worth is None:
            continue
        if line and line[-1][1] == moment and line[-1][2] == worth:
            line[-1] = (line[-1][0], end, worth)
        else:
            line.append((moment, end, worth))
    return line


def has(begin, end, moment):
    return begin <= moment and (end is None or moment < end)


def rows(length, worths=(None, "a", "b")):
    return [list(row) for row in product(worths, repeat=length)]


def stretches(length):
    ends = list(range(1, length)) + [None]
    return [(begin, end) for begin in range(length) for end in ends if end is None or begin < end]


def moments(length):
    return tuple(range(length)) + FAR


def worth_read(tellings, key, moment):
    worth = None
    for telling in tellings:
        if telling[1] == key and has(telling[-2], telling[-1], moment):
            worth = telling[2] if telling[0] == "put" else None
    return worth


# The moments from 0 to below length must have every bound of the tellings among them.
def line_read(tellings, key, length):
    return line_of([worth_read(tellings, key, moment) for moment in range(length)])


def keys_read(tellings, length):
    return sorted(key for key in {telling[1] for telling in tellings} if line_read(tellings, key, length))


def tiles_read(tellings, length):
    tiles = []
    for key in {telling[1] for telling in tellings}:
        lines = [line_read(tellings[:knowing], key, length) for knowing in range(len(tellings) + 1)]
        for since, line in enumerate(lines):
            for run in line:
                if since == 0 or run not in lines[since - 1]:
                    later = [knowing for knowing in range(since, len(lines)) if run not in lines[knowing]]
                    until = later[0] if later else None
                    tiles.append((key, run[2], run[0], run[1], since, until))
    return sorted(tiles, key=lambda tile: (tile[0], tile[4], tile[2]))


def story_read(tellings, key, moment):
    worths = [worth_read(tellings[:knowing], key, moment) for knowing in range(len(tellings) + 1)]
    return line_of(worths)


def table_read(tellings, length):
    table = {}
    for key in {telling[1] for telling in tellings}:
        row = [worth_read(tellings, key, moment) for moment in range(length)]
        if any(row):
            table[key] = row
    return table


def by_key_read(table, other):
    told = []
    for key in sorted(set(table) & set(other)):
        pairs = [None if None in pair else pair for pair in zip(table[key], other[key])]
        told.extend((key, begin, end) + pair for begin, end, pair in line_of(pairs))
    return told


def by_worth_read(table, other):
    told = []
    for key, other_key in product(table, other):
        alike = [one if one == two else None for one, two in zip(table[key], other[other_key])]
        told.extend((worth, key, other_key, begin, end) for begin, end, worth in line_of(alike))
    return sorted(told, key=lambda row: row[:4])


# The first place at which a key breaks a rule, by what the rule says of a key and a moment.
def place_read(table, length, breaks):
    for moment in range(length):
        for key in sorted(table):
            if table[key][moment] is not None and breaks(key, moment):
                return (moment, key)
    return None


def alone_read(table, length):
    def shares(key, moment):
        return any(table[other][moment] == table[key][moment] for other in table if other != key)

    return place_read(table, length, shares)


def named_read(table, other, length):
    def is_without(key, moment):
        worth = table[key][moment]
        return worth not in other or other[worth][moment] is None

    return place_read(table, length, is_without)


def still_read(table, length):
    def is_another(key, moment):
        return any(worth not in (None, table[key][moment]) for worth in table[key][:moment])

    return place_read(table, length, is_another)


def tellings_of(key, length, worths=("a", "b")):
    told = []
    for begin, end in stretches(length):
        told.append(("clear", key, begin, end))
        told.extend(("put", key, worth, begin, end) for worth in worths)
    return told


# The same rows in every run.
def long_rows(many, longest, length):
    chance = Random(7)
    choice = [telling for key in ("x", "y", "z") for telling in tellings_of(key, length)]
    return [[chance.choice(choice) for telling in range(longest)] for row in range(many)]


def sheet_told(kind, tellings):
    sheet = kind()
    for telling in tellings:
        sheet.tell(telling)
    return sheet


class From:
    """A sheet that knows only from a later knowing on, made of nothing but the interface."""

    def __init__(self, sheet, first):
        self.sheet, self.start = sheet, first

    def first(self):
        return self.start

    def knowings(self):
        return self.sheet.knowings()

    def asked(self, knowing):
        if 0 <= knowing < self.start:
            raise Forgotten("asked below its first knowing")
        return knowing

    def worth_at(self, key, moment, knowing):
        return self.sheet.worth_at(key, moment, self.asked(knowing))

    def line_at(self, key, knowing):
        return self.sheet.line_at(key, self.asked(knowing))

    def keys_at(self, knowing):
        return self.sheet.keys_at(self.asked(knowing))
