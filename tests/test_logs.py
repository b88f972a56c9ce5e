import unittest
from itertools import product
from random import Random

from by_moments import (
    Always, Case, LAST, NAMES, NO_NUMBERS, ROW, RULES, SETS, book_told, broken_read, change_handed_in, long_book_row,
    rules, sheet_told, spoilt, told_to, view,
)
from twotimes.books import Book
from twotimes.errors import Broken, NoLog, NoName, NoRow, NoSheet, NoStretch
from twotimes.logs import come_up, line_of, log_of, telling_in
from twotimes.rules import Alone, Rule
from twotimes.tiles import Tiled

LOG = """\
put two red warm 0 -
put one ada red 10 20
put two blue cold 5 50
put one bob blue 15 30
clear one ada 12 15
clear two blue 40 -
put one cy red 25 -
clear one never 0 -
"""
LINES = LOG.splitlines()
# The greatest number of thirteen figures; it is no moment.
MOST = 9999999999999
# Words of one sign or more, whatever they are looked at for when they are told.
WORDS = (
    "ada", "a", "abcdefgh", "abcdefghi", "Ada", "ADA", "a1", "-", "--", "now", "put", "clear", "0", "007", "~!\"#",
    "a:b", "x" * 60,
)
# Lines that no book with the sheets and rules of LOG takes behind it, and why.
NOT_TAKEN = (
    ("", NoRow), (" ", NoRow), ("put", NoRow), ("put one ada red 0", NoRow), ("clear one ada red 0 5", NoRow),
    ("put one ada red 0 05", NoRow), ("put one ada red - 5", NoRow), ("tell one ada red 0 5", NoRow),
    ("tiles one", NoRow), ("what one ada 0 now", NoRow), (" clear one ada 0 5", NoRow), ("clear one ada 0 5 ", NoRow),
    ("put three ada red 0 5", NoSheet), ("clear ONE ada 0 5", NoSheet), ("clear - ada 0 5", NoSheet),
    ("put one Ada red 0 5", NoName), ("put one ada abcdefghi 0 5", NoName), ("clear one - 0 5", NoName),
    ("put one ada red 5 5", NoStretch), ("put one ada red 5 0", NoStretch), (f"clear one ada {LAST + 1} -", NoStretch),
    (f"clear one ada 0 {MOST}", NoStretch),
    ("put one new red 0 26", Broken), ("put one new none 0 1", Broken), ("put two red hot 0 1", Broken),
    ("clear two red 30 31", Broken), ("put one ada red 26 -", Broken),
)


# What a book answers to a telling, or how it refuses it.
def answer(book, name, telling):
    try:
        return (int, book.tell(name, telling))
    except Broken as error:
        return (Broken, error.rule, error.moment, error.key)
    except (NoSheet, NoName, NoStretch) as error:
        return (type(error),)


class Lines(Case):
    def test_of_tellings(self):
        self.assertEqual([line_of(name, telling) for name, telling in ROW], LINES)
        self.assertEqual(line_of("one", ("put", "ada", "red", 0, LAST)), "put one ada red 0 1000000000000")
        self.assertEqual(line_of("one", ("put", "ada", "red", LAST, None)), "put one ada red 1000000000000 -")
        self.assertEqual(line_of("abcdefgh", ("clear", "z", 0, 1)), "clear abcdefgh z 0 1")
        self.assertEqual(line_of("put", ("put", "put", "clear", 0, 1)), "put put put clear 0 1")

    def test_tellings_in_lines(self):
        self.assertEqual([telling_in(line) for line in LINES], ROW)
        self.assertEqual(telling_in("put one ada red 0 1000000000000"), ("one", ("put", "ada", "red", 0, LAST)))
        self.assertEqual(telling_in("clear one ada 1000000000000 -"), ("one", ("clear", "ada", LAST, None)))
        self.assertEqual(telling_in("clear clear put 0 0"), ("clear", ("clear", "put", 0, 0)))
        self.assertEqual(telling_in("put - - - 0 -"), ("-", ("put", "-", "-", 0, None)))

    def test_there_and_back(self):
        begins, ends = (0, 1, 9, 10, 100, LAST, LAST + 1, MOST), (None, 0, 1, 5, 10, LAST, LAST + 1, MOST)
        for begin, end in product(begins, ends):
            for name, key in product(WORDS, repeat=2):
                told = (name, ("clear", key, begin, end))
                self.assertEqual(telling_in(line_of(*told)), told)
            for name, key, worth in product(WORDS[::4], repeat=3):
                told = (name, ("put", key, worth, begin, end))
                self.assertEqual(telling_in(line_of(*told)), told)

    def test_back_and_there(self):
        for line in LINES + ["put x y z 0 0", "clear - - 9999999999999 1", "put A B C 7 -"]:
            self.assertEqual(line_of(*telling_in(line)), line)

    def test_kinds(self):
        for line in LINES:
            told = telling_in(line)
            name, telling = told
            self.assertEqual([type(told), type(name), type(telling)], [tuple, str, tuple])
            self.assertEqual({type(word) for word in telling[:-2]}, {str})
            self.assertIs(type(telling[-2]), int)
            self.assertIn(type(telling[-1]), (int, type(None)))
            self.assertIs(type(line_of(*told)), str)

    def test_of_no_form(self):
        for line in LINES:
            for other in spoilt(line):
                self.check_refused(NoRow, lambda: telling_in(other))

    def test_too_few_and_too_many_words(self):
        # A 0 may stand for every word but the first one.
        for first, right in (("put", 5), ("clear", 4)):
            for many in range(12):
                line = " ".join([first] + ["0"] * many)
                if many == right:
                    self.assertEqual(telling_in(line), ("0", (first,) + ("0",) * (many - 3) + (0, 0)))
                else:
                    self.check_refused(NoRow, lambda: telling_in(line))

    def test_another_first_word(self):
        for word in ("", "-", "x", "PUT", "Put", "puts", "pu", "CLEAR", "Clear", "clea", "clears", "0", "what", "line"):
            self.check_refused(NoRow, lambda: telling_in(f"{word} one ada red 0 5"))
            self.check_refused(NoRow, lambda: telling_in(f"{word} one ada 0 5"))
        for line in ("what one ada 0 now", "line one ada now", "all one 0 now", "story one ada 0", "tiles one"):
            self.check_refused(NoRow, lambda: telling_in(line))

    def test_no_numbers(self):
        for bad in NO_NUMBERS + ("now", "none"):
            for line in (f"put one ada red {bad} 9", f"put one ada red {bad} -", f"clear one ada {bad} 9",
                         f"put one ada red 0 {bad}", f"clear one ada 0 {bad}", f"clear one ada {bad} {bad}"):
                self.check_refused(NoRow, lambda: telling_in(line))
        for line in ("put one ada red - 9", "put one ada red - -", "clear one ada - 9", "clear one ada - -"):
            self.check_refused(NoRow, lambda: telling_in(line))

    def test_a_line_of_no_form_ahead_of_all_that_telling_looks_at(self):
        for line in ("put Three Ada RED 01 -", "clear Three Ada 9 00", "put - - - - -", "clear A B C 5 5"):
            self.check_refused(NoRow, lambda: telling_in(line))

    def test_what_is_handed_in_stays(self):
        telling = ["put", "ada", "red", 0, None]
        self.assertEqual(line_of("one", telling), "put one ada red 0 -")
        self.assertEqual(telling, ["put", "ada", "red", 0, None])

    def test_told_tuples_are_new(self):
        for line in LINES:
            told, again = telling_in(line), telling_in(line)
            self.assertFalse(told is again or told[1] is again[1])


class Log(Case):
    def test_without_tellings(self):
        for book in (Book([], []), Book(NAMES, rules()), Book(NAMES, [Always()])):
            self.assertEqual(log_of(book), "")

    def test_a_line_for_each_telling_in_order(self):
        for many in range(len(ROW) + 1):
            self.assertEqual(log_of(book_told(ROW[:many])), "".join(line + "\n" for line in LINES[:many]))

    def test_refused_ones_between(self):
        book = Book(NAMES, rules())
        for number, (name, telling) in enumerate(ROW):
            self.check_refuses_some(book)
            self.assertEqual(log_of(book).count("\n"), number)
            book.tell(name, telling)
        self.assertEqual(log_of(book), LOG)

    def test_tellings_that_change_no_line(self):
        row = [("one", ("clear", "ada", 0, None))] * 2 + [("empty", ("clear", "x", 3, LAST))]
        wanted = "clear one ada 0 -\nclear one ada 0 -\nclear empty x 3 1000000000000\n"
        self.assertEqual(log_of(book_told(row)), wanted)

    def test_asking_changes_nothing(self):
        book = book_told()
        before = view(book)
        self.assertEqual((log_of(book), log_of(book)), (LOG, LOG))
        self.assertEqual(view(book), before)


class ComingUp(Case):
    def check_came_up(self, text, row, names=NAMES):
        book = come_up(names, rules(), text)
        self.assertIsInstance(book, Book)
        self.assertEqual(view(book), view(book_told(row)))
        self.assertEqual(log_of(book), "".join(line + "\n" for line in LINES[:len(row)]))

    # Both are told the same, and answer the same.
    def check_goes_on_alike(self, book, other):
        kinds = []
        for number, (line, kind) in enumerate(NOT_TAKEN):
            if kind is not NoRow:
                told, again = [answer(each, *telling_in(line)) for each in (book, other)]
                self.assertEqual(told, again)
                kinds.append((told[0], kind))
            again = ("empty", ("put", "ada", "red", number, None))
            self.assertEqual(book.tell(*again), other.tell(*again))
        self.assertEqual((view(book), log_of(book)), (view(other), log_of(other)))
        return kinds

    def test_a_whole_log(self):
        self.check_came_up(LOG, ROW)
        self.check_came_up(LOG, ROW, NAMES[::-1])

    def test_an_empty_log(self):
        self.check_came_up("", [])
        self.assertEqual(view(come_up([], [], "")), view(Book([], [])))

    def test_cut_at_every_place(self):
        for place in range(len(LOG) + 1):
            text = LOG[:place]
            self.check_came_up(text, ROW[:text.count("\n")])

    def test_text_behind_the_last_line_feed_is_dropped(self):
        texts = [line for line, kind in NOT_TAKEN] + LINES + ["put one", "\t", "x" * 100]
        for many, text in product((0, 1, len(LINES)), texts):
            lines = "".join(line + "\n" for line in LINES[:many])
            self.check_came_up(lines + text, ROW[:many])

    def test_goes_on_answering_like_the_first_one(self):
        for many in range(len(ROW) + 1):
            text = "".join(line + "\n" for line in LINES[:many])
            kinds = self.check_goes_on_alike(come_up(NAMES, rules(), text), book_told(ROW[:many]))
        # Behind the whole row each is refused as it is meant to be.
        self.assertEqual([told for told, kind in kinds], [kind for told, kind in kinds])

    def test_is_apart_from_the_first_one(self):
        book = book_told()
        other = come_up(NAMES, rules(), log_of(book))
        before = view(book)
        other.tell("empty", ("put", "ada", "red", 0, 5))
        self.assertEqual((view(book), log_of(book)), (before, LOG))
        third = come_up(NAMES, rules(), LOG)
        book.tell("empty", ("put", "ada", "blue", 0, 5))
        self.assertEqual(view(third), before)

    def test_long_rows(self):
        chance = Random(7)
        for numbers in SETS:
            some = [RULES[number] for number in numbers]
            given = [rule for rule, read in some]
            taken, books = [], [Book(["one", "two"], given)]
            for name, telling in long_book_row(chance, 20):
                if broken_read(some, taken + [(name, telling)]) is None:
                    taken.append((name, telling))
            text = "".join(line_of(*told) + "\n" for told in taken)
            for name, telling in taken:
                books[0].tell(name, telling)
            self.assertEqual(log_of(books[0]), text)
            for place in range(0, len(text) + 1, 3):
                book = come_up(["two", "one"], given, text[:place])
                stood = taken[:text[:place].count("\n")]
                self.assertEqual((book.tellings(), book.knowings()), (stood, len(stood)))
                for name in ("one", "two"):
                    self.assertEqual(book.sheet(name).tiles(), sheet_told(Tiled, told_to(stood, name)).tiles())


class NotComingUp(Case):
    def check_no_log(self, text, number, given=None):
        error = self.check_refused(NoLog, lambda: come_up(NAMES, rules() if given is None else given, text))
        self.assertEqual(error.line, number)
        self.assertIs(type(error.line), int)

    def test_a_line_that_is_not_taken(self):
        for line, kind in NOT_TAKEN:
            self.check_no_log(LOG + line + "\n", len(LINES))
            self.check_no_log(LOG + line + "\nclear one ada 0 -\n", len(LINES))
            self.check_no_log(LOG + "clear empty x 0 -\n" + line + "\nput", len(LINES) + 1)

    # What breaks a rule behind the whole log may break none ahead of it.
    def test_at_each_place(self):
        for line, kind in NOT_TAKEN:
            for place in range(len(LINES) + 1):
                if kind is not Broken:
                    text = "".join(each + "\n" for each in LINES[:place] + [line] + LINES[place:])
                    self.check_no_log(text, place)

    def test_of_several_the_first_one(self):
        bad = [line for line, kind in NOT_TAKEN]
        for one, other in product(bad, bad[::6]):
            self.check_no_log(LOG + one + "\n" + other + "\n" + one + "\n", len(LINES))

    def test_an_empty_line(self):
        self.check_no_log("\n", 0)
        self.check_no_log("\n\n", 0)
        self.check_no_log("\n" + LOG, 0)
        self.check_no_log(LOG + "\n", len(LINES))
        self.check_no_log(LINES[0] + "\n\n" + LINES[1] + "\n", 1)

    def test_spoilt_lines(self):
        for line in LINES[:2] + LINES[4:5]:
            for other in spoilt(line):
                # With a line feed within it is two lines or more, and the first one that is none counts.
                lines = (other + "\n").split("\n")[:-1]
                bad = [number for number, each in enumerate(lines) if each not in LINES]
                if bad:
                    self.check_no_log(LINES[0] + "\n" + other + "\n", bad[0] + 1)

    def test_other_line_ends_are_none(self):
        for end in ("\r\n", "\t\n", " \n", "\x0b\n", "\x0c\n"):
            self.check_no_log(LOG.replace("\n", end), 0)
        self.assertEqual(come_up(NAMES, rules(), LOG.replace("\n", "\r")).knowings(), 0)

    def test_a_rule_of_its_own(self):
        self.check_no_log(LOG, 0, [Always()])
        self.check_no_log(LOG, 6, [Rule(), Alone("one"), Alone("two"), NoCy()])
        self.check_no_log(LOG, 1, [rules()[2], NoKeys()])

    def test_a_log_of_other_sheets(self):
        for names, number in (([], 0), (["one", "empty"], 0), (["two", "empty"], 1)):
            error = self.check_refused(NoLog, lambda: come_up(names, [], LOG))
            self.assertEqual(error.line, number)

    def test_a_log_of_a_book_with_fewer_rules(self):
        book = Book(NAMES, [])
        for name, telling in ROW[:2] + [("one", ("put", "new", "red", 0, 12)), ("two", ("put", "red", "hot", 0, 5))]:
            book.tell(name, telling)
        self.check_no_log(log_of(book), 2)
        self.assertEqual(view(come_up(NAMES, [], log_of(book))), view(book))


class NoCy(Rule):
    """Broken as soon as the sheet "one" has a key "cy"."""

    def broken(self, tables):
        return (25, "cy") if "cy" in tables["one"] else None


class NoKeys(Rule):
    """Broken as soon as the sheet "one" has a key."""

    def broken(self, tables):
        return (0, min(tables["one"])) if tables["one"] else None


class HandedIn(Case):
    def test_names_and_rules_changed_behind_it(self):
        names, given = list(NAMES), rules()
        book = come_up(names, given, LOG)
        change_handed_in(names, given)
        self.assertEqual(view(book), view(book_told()))
        error = self.check_refused(Broken, lambda: book.tell("one", ("put", "new", "none", 0, 1)))
        self.assertEqual((error.rule, error.moment, error.key), (1, 0, "new"))
        self.check_refused(NoSheet, lambda: book.tell("three", ("put", "new", "none", 0, 1)))
        self.assertEqual(book.tell("empty", ("put", "ada", "red", 0, 1)), len(ROW) + 1)

    def test_names_and_rules_are_not_changed(self):
        self.check_stay(lambda names, given: come_up(names, given, LOG))
        self.check_stay(lambda names, given: self.check_refused(NoLog, lambda: come_up(names, given, LOG + "\n")))

    def test_what_the_asker_does_changes_nothing(self):
        book = come_up(NAMES, rules(), LOG)
        before = view(book)
        for call in (book.tellings, lambda: book.known(8), book.sheet("one").tiles):
            self.check_own(call)
        self.assertEqual((view(book), log_of(book)), (before, LOG))


class Sizes(Case):
    def test_a_thousand_lines(self):
        lines = []
        for number in range(500):
            lines.append(f"put two red warm {3 * number} {3 * number + 2}\n")
            lines.append(f"put one ada red {3 * number} {3 * number + 1}\n")
        text = "".join(lines)
        book = come_up(NAMES, rules(), text)
        self.assertEqual(book.knowings(), 1000)
        # assertEqual would be long about telling where two such texts differ.
        self.assertTrue(log_of(book) == text)
        self.assertEqual(book.known(999), [("empty", 0), ("one", 499), ("two", 500)])

    def test_lines_of_a_hundred_signs(self):
        line = "put " + "x" * 90 + " a b 0"
        self.check_refused(NoRow, lambda: telling_in(line))
        line = "clear " + "x" * 40 + " " + "~" * 40 + " 1000000000000 -"
        self.assertEqual(telling_in(line), ("x" * 40, ("clear", "~" * 40, LAST, None)))


if __name__ == "__main__":
    unittest.main()
