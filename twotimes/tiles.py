"""Tiles: the runs of lines, each with the knowings through which it stands."""

from twotimes.sheets import Sheet


# Asked by nothing but what every sheet answers, so that it is of any sheet.
def tiles_of(sheet):
    told = []
    for key in keys_ever(sheet):
        told.extend(tiles_of_key(sheet, key))
    return told


def keys_ever(sheet):
    seen = {}
    for knowing in range(sheet.first(), sheet.knowings() + 1):
        for key in sheet.keys_at(knowing):
            seen[key] = True
    return sorted(seen)


def tiles_of_key(sheet, key):
    tiles = []
    for knowing in range(sheet.first(), sheet.knowings() + 1):
        tiles = tiled_on(tiles, key, sheet.line_at(key, knowing), knowing)
    return tiles


# The tiles of a key with the line of the next knowing. New ones go behind all others, and rise as the line does: so
# the tiles of a key are always sorted by since, then begin.
def tiled_on(tiles, key, line, knowing):
    wanted = dict([(run, True) for run in line])
    standing = dict([(run_of(tile), True) for tile in tiles if is_standing(tile)])
    begun = [run for run in line if run not in standing]
    ended = [
        tile[:5] + (knowing,) if is_standing(tile) and run_of(tile) not in wanted else tile
        for tile in tiles
    ]
    return ended + [(key, worth, begin, end, knowing, None) for begin, end, worth in begun]


def run_of(tile):
    return (tile[2], tile[3], tile[1])


def is_standing(tile):
    return tile[5] is None


def stands_at(tile, knowing):
    return tile[4] <= knowing and (is_standing(tile) or knowing < tile[5])


class Tiled(Sheet):
    def tiles(self):
        told = []
        for name in sorted(self.kept):
            for key, worth, begin, end, since, until in self.kept[name]:
                told.append((key, worth, begin, end, since, until))
        return told

    def keep_line(self, key, line):
        self.kept[key] = tiled_on(self.kept.get(key, []), key, line, self.last)

    # No two runs of a knowing have one begin, so sorting never comes to the ends, which may be None.
    def known_line(self, key, knowing):
        return sorted([run_of(tile) for tile in self.kept.get(key, []) if stands_at(tile, knowing)])
