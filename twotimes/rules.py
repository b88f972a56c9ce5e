"""Rules: what lines of sheets must keep to, and where they break it."""

from twotimes.lines import is_over, with_alike_joined
from twotimes.stretches import earlier_end
from twotimes.tables import holders_in


class Rule:
    def broken(self, tables):
        return None


class Alone(Rule):
    def __init__(self, name):
        self.name = name

    def broken(self, tables):
        places = []
        for holders in holders_in(tables[self.name]).values():
            places.extend(places_shared(holders))
        return min(places, default=None)


class Named(Rule):
    def __init__(self, name, other):
        self.name = name
        self.other = other

    def broken(self, tables):
        places = []
        for worth, holders in holders_in(tables[self.name]).items():
            places.extend(places_without(holders, tables[self.other].get(worth, [])))
        return min(places, default=None)


class Still(Rule):
    def __init__(self, name):
        self.name = name

    def broken(self, tables):
        places = []
        for key, line in tables[self.name].items():
            places.extend([(begin, key) for begin, end, worth in line if worth != line[0][2]])
        return min(places, default=None)


# The places of the first moment at which two holders meet. Up to there they lie apart, so it is enough to look at
# each beside the next one.
def places_shared(holders):
    rising = by_begin(holders)
    for holder, later in zip(rising, rising[1:]):
        moment = later[1]
        if not is_over(holder[1:], moment):
            return [(moment, each[0]) for each in rising if each[1] <= moment and not is_over(each[1:], moment)]
    return []


# The first place of each holder at which the line has nothing, whatever worths it has. The begins rise, so one walk
# along the line is enough.
def places_without(holders, line):
    standing = with_alike_joined([(begin, end) for begin, end, worth in line])
    places = []
    at = 0
    for key, begin, end in by_begin(holders):
        while at < len(standing) and is_over(standing[at], begin):
            at += 1
        reach = standing[at][1] if at < len(standing) and standing[at][0] <= begin else begin
        if earlier_end(end, reach) != end:
            places.append((reach, key))
    return places


def by_begin(holders):
    return sorted(holders, key=lambda holder: holder[1])
