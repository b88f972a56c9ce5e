"""Tables: dicts from keys to lines, without empty ones."""


def with_line(table, key, line):
    told = dict([(known, table[known]) for known in table if known != key])
    if line:
        told[key] = line
    return told


# By worth: the keys that have it, and through which stretches.
def holders_in(table):
    holders = {}
    for key in table:
        for begin, end, worth in table[key]:
            holders.setdefault(worth, []).append((key, begin, end))
    return holders
