"""Changes: where lines are unlike at two knowings; and what leads from the ones to the others, and back."""

from twotimes.errors import NoFit
from twotimes.lines import laid_together, with_alike_joined


def table_at(sheet, knowing):
    return dict([(key, sheet.line_at(key, knowing)) for key in sheet.keys_at(knowing)])


def changes(sheet, knowing, later):
    table = table_at(sheet, knowing)
    later_table = table_at(sheet, later)
    told = []
    for key in sorted(set(table) | set(later_table)):
        told.extend(unlike_of(key, laid_together(table.get(key, []), later_table.get(key, []))))
    return told


def changed(tables, some):
    pairs = pairs_by_key(some)
    told = {}
    for key in sorted(set(tables) | set(pairs)):
        line = line_changed(tables.get(key, []), pairs.get(key, []))
        if line:
            told[key] = line
    return told


def turned(some):
    return [(key, begin, end, now, then) for key, begin, end, then, now in some]


def joined(some, others):
    pairs = pairs_by_key(some)
    other_pairs = pairs_by_key(others)
    told = []
    for key in sorted(set(pairs) | set(other_pairs)):
        told.extend(unlike_of(key, pairs_joined(pairs.get(key, []), other_pairs.get(key, []))))
    return told


def unlike_of(key, pieces):
    return [(key, begin, end, then, now) for begin, end, then, now in pieces if then != now]


# By key: its changes, as a line is, with (worth then, worth now) in the place of a worth; so they can be laid together
# with lines, and with one another.
def pairs_by_key(some):
    pairs = {}
    for key, begin, end, then, now in sorted(some, key=lambda change: change[1]):
        pairs.setdefault(key, []).append((begin, end, (then, now)))
    return pairs


def line_changed(line, pairs):
    pieces = []
    for begin, end, worth, pair in laid_together(line, pairs):
        if pair is not None and pair[0] != worth:
            raise NoFit("a change doesn't find its worth then at each of its moments")
        now = worth if pair is None else pair[1]
        if now is not None:
            pieces.append((begin, end, now))
    return with_alike_joined(pieces)


def pairs_joined(pairs, others):
    pieces = []
    for begin, end, pair, other in laid_together(pairs, others):
        then = other[0] if pair is None else pair[0]
        now = pair[1] if other is None else other[1]
        pieces.append((begin, end, then, now))
    return with_alike_joined(pieces)
