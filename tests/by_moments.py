"""What the document says of lines, moment by moment: a row of worths, the last one standing for ever."""

from itertools import product

# Further than any bound that the rows below can make.
FAR = (10 ** 6, 10 ** 12)


def line_of(row):
    line = []
    for moment, worth in enumerate(row):
        end = moment + 1 if moment + 1 < len(row) else None
        if worth is None:
            continue
        if line and line[-1][1] == moment and line[-1][2] == worth:
            line[-1] = (line[-1][0], end, worth)
        else:
            line.append((moment, end, worth))
    return line


def has(begin, end, moment):
    return begin <= moment and (end is None or moment < end)


def rows(length, worths=(None, "a", "b")):
    return [list(row) for row in product(worths, repeat=length)]


def stretches(length):
    ends = list(range(1, length)) + [None]
    return [(begin, end) for begin in range(length) for end in ends if end is None or begin < end]


def moments(length):
    return tuple(range(length)) + FAR
