"""Sheets: what worth a key has at a moment, as it was known behind so many tellings."""

from twotimes.checks import check_in_reach, check_moment, check_name, check_stretch
from twotimes.lines import put_on, worth_in


# The names of a telling stand between its word and its stretch, whichever word it is.
def check_telling(telling):
    for name in telling[1:-2]:
        check_name(name)
    check_stretch(telling[-2], telling[-1])


def line_behind(line, telling):
    worth = telling[2] if telling[0] == "put" else None
    return put_on(line, telling[-2], telling[-1], worth)


class Sheet:
    # What is kept of a key is for keep_line and known_line alone: a class under this one may keep other things.
    def __init__(self):
        self.last = 0
        self.kept = {}

    def tell(self, telling):
        check_telling(telling)
        key = telling[1]
        line = line_behind(self.known_line(key, self.last), telling)
        self.last += 1
        self.keep_line(key, line)
        return self.last

    def knowings(self):
        return self.last

    def first(self):
        return 0

    def worth_at(self, key, moment, knowing):
        self.check_knowing(knowing)
        check_name(key)
        check_moment(moment)
        return worth_in(self.known_line(key, knowing), moment)

    def line_at(self, key, knowing):
        self.check_knowing(knowing)
        check_name(key)
        return self.known_line(key, knowing)

    def keys_at(self, knowing):
        self.check_knowing(knowing)
        return sorted([key for key in self.kept if self.known_line(key, knowing)])

    def check_knowing(self, knowing):
        check_in_reach(knowing, self.last)

    def keep_line(self, key, line):
        self.kept.setdefault(key, []).append((self.last, line))

    # Told to askers too, so the list and its tuples are new ones each time.
    def known_line(self, key, knowing):
        for since, line in reversed(self.kept.get(key, [])):
            if since <= knowing:
                return [(begin, end, worth) for begin, end, worth in line]
        return []
