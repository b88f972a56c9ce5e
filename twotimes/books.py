"""Books: sheets by names, on which nothing is told that breaks a rule."""

from twotimes.changes import table_at
from twotimes.checks import check_in_reach
from twotimes.errors import Broken, NoSheet
from twotimes.sheets import check_telling, line_behind
from twotimes.tables import with_line
from twotimes.tiles import Tiled


class Book:
    def __init__(self, names, rules):
        self.sheets = dict([(name, Tiled()) for name in names])
        self.rules = list(rules)
        self.taken = []

    def tell(self, name, telling):
        sheet = self.sheet(name)
        check_telling(telling)
        self.check_rules(self.tables_behind(name, telling))
        sheet.tell(telling)
        self.taken.append((name, fresh(telling)))
        return self.knowings()

    def knowings(self):
        return len(self.taken)

    def tellings(self):
        return [(name, fresh(telling)) for name, telling in self.taken]

    def sheet(self, name):
        # What is no text may be a thing that no dict can be asked for.
        if not isinstance(name, str) or name not in self.sheets:
            raise NoSheet("the book has no sheet of that name")
        return self.sheets[name]

    def known(self, knowing):
        check_in_reach(knowing, self.knowings())
        counts = dict([(name, 0) for name in self.sheets])
        for name, telling in self.taken[:knowing]:
            counts[name] += 1
        return sorted(counts.items())

    def tables_behind(self, name, telling):
        tables = dict([(each, table_at(sheet, sheet.knowings())) for each, sheet in self.sheets.items()])
        key = telling[1]
        tables[name] = with_line(tables[name], key, line_behind(tables[name].get(key, []), telling))
        return tables

    def check_rules(self, tables):
        for number, rule in enumerate(self.rules):
            place = rule.broken(tables)
            if place is not None:
                raise Broken(number, place[0], place[1])


# tuple of a tuple would be that very one; what is told is the asker's own.
def fresh(telling):
    return tuple(list(telling))
