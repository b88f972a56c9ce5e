"""What the document says of lines and sheets, moment by moment and knowing by knowing.

A line is read as a row of worths, the last one standing for ever; a sheet as the list of its tellings.
"""

from itertools import product
from random import Random

# Further than any bound that the rows below can make.
FAR = (10 ** 6, 10 ** 12)


def line_of(row):
    line = []
    for moment, worth in enumerate(row):
        end = moment + 1 if moment + 1 < len(row) else None
        if worth is None:
            continue
        if line and line[-1][1] == moment and line[-1][2] == worth:
            line[-1] = (line[-1][0], end, worth)
        else:
            line.append((moment, end, worth))
    return line


def has(begin, end, moment):
    return begin <= moment and (end is None or moment < end)


def rows(length, worths=(None, "a", "b")):
    return [list(row) for row in product(worths, repeat=length)]


def stretches(length):
    ends = list(range(1, length)) + [None]
    return [(begin, end) for begin in range(length) for end in ends if end is None or begin < end]


def moments(length):
    return tuple(range(length)) + FAR


def worth_read(tellings, key, moment):
    worth = None
    for telling in tellings:
        if telling[1] == key and has(telling[-2], telling[-1], moment):
            worth = telling[2] if telling[0] == "put" else None
    return worth


# The moments from 0 to below length must have every bound of the tellings among them.
def line_read(tellings, key, length):
    return line_of([worth_read(tellings, key, moment) for moment in range(length)])


def keys_read(tellings, length):
    return sorted(key for key in {telling[1] for telling in tellings} if line_read(tellings, key, length))


def tiles_read(tellings, length):
    tiles = []
    for key in {telling[1] for telling in tellings}:
        lines = [line_read(tellings[:knowing], key, length) for knowing in range(len(tellings) + 1)]
        for since, line in enumerate(lines):
            for run in line:
                if since == 0 or run not in lines[since - 1]:
                    later = [knowing for knowing in range(since, len(lines)) if run not in lines[knowing]]
                    until = later[0] if later else None
                    tiles.append((key, run[2], run[0], run[1], since, until))
    return sorted(tiles, key=lambda tile: (tile[0], tile[4], tile[2]))


def story_read(tellings, key, moment):
    worths = [worth_read(tellings[:knowing], key, moment) for knowing in range(len(tellings) + 1)]
    return line_of(worths)


def tellings_of(key, length, worths=("a", "b")):
    told = []
    for begin, end in stretches(length):
        told.append(("clear", key, begin, end))
        told.extend(("put", key, worth, begin, end) for worth in worths)
    return told


# The same rows in every run.
def long_rows(many, longest, length):
    chance = Random(7)
    choice = [telling for key in ("x", "y", "z") for telling in tellings_of(key, length)]
    return [[chance.choice(choice) for telling in range(longest)] for row in range(many)]


def sheet_told(kind, tellings):
    sheet = kind()
    for telling in tellings:
        sheet.tell(telling)
    return sheet


class From:
    """A sheet that knows only from a later knowing on, made of nothing but the interface."""

    def __init__(self, sheet, first):
        self.sheet, self.start = sheet, first

    def first(self):
        return self.start

    def knowings(self):
        return self.sheet.knowings()

    def asked(self, knowing):
        if knowing < self.start:
            raise AssertionError("asked below its first knowing")
        return knowing

    def worth_at(self, key, moment, knowing):
        return self.sheet.worth_at(key, moment, self.asked(knowing))

    def line_at(self, key, knowing):
        return self.sheet.line_at(key, self.asked(knowing))

    def keys_at(self, knowing):
        return self.sheet.keys_at(self.asked(knowing))
