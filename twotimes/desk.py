"""The desk: a book that is told and asked by rows of words."""

from twotimes.asks import all_at, story
from twotimes.books import Book
from twotimes.logs import telling_in
from twotimes.rows import NOTHING, parts_in, word_of

ASKS = {
    "what": ("word", "word", "moment", "knowing"),
    "line": ("word", "word", "knowing"),
    "all": ("word", "moment", "knowing"),
    "story": ("word", "word", "moment"),
    "tiles": ("word",),
}


class Desk:
    def __init__(self, names, rules):
        self.book = Book(names, rules)

    def say(self, row):
        if row.split(" ")[0] in ASKS:
            parts = parts_in(row, dict(ASKS))
            return answer(parts[0], self.book.sheet(parts[1]), parts[2:])
        found = telling_in(row)
        return str(self.book.tell(found[0], found[1]))


def answer(ask, sheet, parts):
    if ask == "tiles":
        return str(len(sheet.tiles()))
    if ask == "story":
        return listed(stretches_shown(story(sheet, parts[0], parts[1])))
    # These three have a knowing as their last part, or None for now.
    knowing = sheet.knowings() if parts[-1] is None else parts[-1]
    if ask == "line":
        return listed(stretches_shown(sheet.line_at(parts[0], knowing)))
    if ask == "all":
        return listed([f"{key}:{worth}" for key, worth in all_at(sheet, parts[0], knowing)])
    return word_of(sheet.worth_at(parts[0], parts[1], knowing))


def stretches_shown(stretches):
    return [f"{begin}-" + word_of(end) + f":{worth}" for begin, end, worth in stretches]


def listed(words):
    return " ".join(words) if words else NOTHING
