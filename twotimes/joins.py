"""Joins of two sheets, each at a knowing, by nothing but what every sheet answers."""

from twotimes.changes import table_at
from twotimes.lines import laid_together
from twotimes.stretches import common
from twotimes.tables import holders_in


def by_key(sheet, knowing, other, other_knowing):
    table = table_at(sheet, knowing)
    other_table = table_at(other, other_knowing)
    told = []
    for key in sorted(table):
        for begin, end, worth, other_worth in laid_together(table[key], other_table.get(key, [])):
            if worth is not None and other_worth is not None:
                told.append((key, begin, end, worth, other_worth))
    return told


# No two rows are alike up to the begin, so sorting never comes to the ends, which may be None.
def by_worth(sheet, knowing, other, other_knowing):
    holders = holders_in(table_at(sheet, knowing))
    other_holders = holders_in(table_at(other, other_knowing))
    told = []
    for worth in holders:
        for row in held_by_both(holders[worth], other_holders.get(worth, [])):
            told.append((worth,) + row)
    return sorted(told)


# A key's stretches of one worth never touch, so what two keys have in common of it doesn't either: there are no
# neighbours to join.
def held_by_both(holders, other_holders):
    told = []
    for key, begin, end in holders:
        for other_key, other_begin, other_end in other_holders:
            both = common((begin, end), (other_begin, other_end))
            if both is not None:
                told.append((key, other_key) + both)
    return told
