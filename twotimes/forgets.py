"""Short sheets: tiled ones that forget elder knowings."""

from twotimes.checks import check_in_reach
from twotimes.errors import Forgotten
from twotimes.tiles import Tiled


class Short(Tiled):
    def __init__(self):
        Tiled.__init__(self)
        self.lowest = 0

    def first(self):
        return self.lowest

    def forget(self, knowing):
        check_in_reach(knowing, self.last)
        if knowing <= self.lowest:
            return 0
        before = len(self.tiles())
        left = dict([(key, tiles_from(tiles, knowing)) for key, tiles in self.kept.items()])
        self.kept = dict([(key, tiles) for key, tiles in left.items() if tiles])
        self.lowest = knowing
        return before - len(self.tiles())

    def check_knowing(self, knowing):
        check_in_reach(knowing, self.last)
        if knowing < self.lowest:
            raise Forgotten("the sheet has forgotten the knowings below its first one")


# Those that began ahead come to one since, and are sorted anew, as the tiles of a key always are.
def tiles_from(tiles, knowing):
    left = [
        (key, worth, begin, end, max(since, knowing), until)
        for key, worth, begin, end, since, until in tiles
        if until is None or knowing < until
    ]
    return sorted(left, key=lambda tile: (tile[4], tile[2]))
