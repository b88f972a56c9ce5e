"""Logs: the tellings of a book as a text, and a book that comes up from one."""

from twotimes.books import Book
from twotimes.errors import NoLog, TimesError
from twotimes.rows import parts_in, word_of

FORMS = {
    "put": ("word", "word", "word", "moment", "end"),
    "clear": ("word", "word", "moment", "end"),
}


def line_of(name, telling):
    return " ".join([telling[0], name] + [word_of(part) for part in telling[1:]])


def telling_in(line):
    parts = parts_in(line, dict(FORMS))
    return (parts[1], tuple(parts[:1] + parts[2:]))


def log_of(book):
    return "".join([line_of(name, telling) + "\n" for name, telling in book.tellings()])


def come_up(names, rules, text):
    book = Book(names, rules)
    # What is behind the last line feed is no line, also where it is nothing.
    for number, line in enumerate(text.split("\n")[:-1]):
        tell_line(book, line, number)
    return book


def tell_line(book, line, number):
    try:
        found = telling_in(line)
        book.tell(found[0], found[1])
    except TimesError as error:
        raise NoLog(number) from error
