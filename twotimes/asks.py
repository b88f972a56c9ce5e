"""Asks of a sheet, by nothing but what every sheet answers."""

from twotimes.checks import check_moment, check_name
from twotimes.lines import with_alike_joined


def story(sheet, key, moment):
    last = sheet.knowings()
    pieces = []
    for knowing in range(sheet.first(), last + 1):
        worth = sheet.worth_at(key, moment, knowing)
        if worth is not None:
            pieces.append((knowing, None if knowing == last else knowing + 1, worth))
    return with_alike_joined(pieces)


def all_at(sheet, moment, knowing):
    keys = sheet.keys_at(knowing)
    # The sheet refuses the moment only where there is a key to ask for.
    check_moment(moment)
    worths = [(key, sheet.worth_at(key, moment, knowing)) for key in keys]
    return [(key, worth) for key, worth in worths if worth is not None]


def when(sheet, key, worth, knowing):
    line = sheet.line_at(key, knowing)
    check_name(worth)
    return [(begin, end) for begin, end, held in line if held == worth]


def who(sheet, worth, knowing):
    keys = sheet.keys_at(knowing)
    check_name(worth)
    told = []
    for key in keys:
        for begin, end in when(sheet, key, worth, knowing):
            told.append((key, begin, end))
    return told
