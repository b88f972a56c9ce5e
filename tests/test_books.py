import unittest
from itertools import product
from random import Random

from by_moments import (
    Always, Case, FAR, HUGE, LAST, NAMES, NO_NAMES, NO_STRETCHES, ROW, RULES, SETS, book_told, broken_read,
    change_handed_in, long_book_row, rules, sheet_told, sheet_view, told_to, view,
)
from twotimes.asks import story
from twotimes.books import Book
from twotimes.errors import Broken, NoKnowing, NoName, NoSheet, NoStretch
from twotimes.joins import by_key
from twotimes.rules import Alone, Named, Rule, Still
from twotimes.tiles import Tiled

# What no sheet of a book below is called, and some that are no names at all.
NO_SHEETS = ("three", "on", "onee", "ONE", "one ", "a", "ada", "put") + NO_NAMES


class Seen(Rule):
    """A rule that is never broken, and writes down what it was shown."""

    def __init__(self):
        self.shown = []

    def broken(self, tables):
        self.shown.append(tables)
        return None


class Books(Case):
    def check_broken(self, book, name, telling, rule, moment, key):
        before = view(book)
        error = self.check_refused(Broken, lambda: book.tell(name, telling))
        self.assertEqual((error.rule, error.moment, error.key), (rule, moment, key))
        self.assertEqual(view(book), before)

    def check_still_as_it_was(self, book, kind, name, telling):
        before = view(book)
        self.check_refused(kind, lambda: book.tell(name, telling))
        self.assertEqual(view(book), before)


class Telling(Books):
    def test_a_new_book(self):
        book = Book(NAMES, rules())
        self.assertEqual((book.knowings(), book.tellings()), (0, []))
        self.assertEqual(book.known(0), [("empty", 0), ("one", 0), ("two", 0)])
        for name in NAMES:
            self.assertEqual(sheet_view(book.sheet(name)), sheet_view(Tiled()))

    def test_tellings_that_are_taken(self):
        book = Book(NAMES, rules())
        for number, (name, telling) in enumerate(ROW):
            self.assertEqual(book.knowings(), number)
            self.assertEqual(book.tell(name, telling), number + 1)
            self.assertEqual(book.knowings(), number + 1)
            self.assertEqual(book.tellings(), ROW[:number + 1])
            for other in NAMES:
                wanted = sheet_told(Tiled, told_to(ROW[:number + 1], other))
                self.assertEqual(sheet_view(book.sheet(other)), sheet_view(wanted))

    def test_without_rules(self):
        row = [("one", ("put", "ada", "red", 0, 9)), ("one", ("put", "bob", "red", 0, 9)), ("one", ("put", "bob", "blue", 3, 5))]
        book = book_told(row, [])
        self.assertEqual((book.knowings(), book.tellings()), (3, row))
        self.assertEqual(book.sheet("one").line_at("bob", 3), [(0, 3, "red"), (3, 5, "blue"), (5, 9, "red")])
        self.assertEqual(view(book_told(row, [Rule(), Rule()])), view(book))

    def test_breaking_alone(self):
        for number, given in enumerate(([Alone("one")], [Rule(), Alone("one")], [Still("two"), Rule(), Alone("one")])):
            book = book_told(ROW, given)
            self.check_broken(book, "one", ("put", "dot", "red", 0, None), number, 10, "ada")
            self.check_broken(book, "one", ("put", "dot", "red", 12, None), number, 15, "ada")
            self.check_broken(book, "one", ("put", "aa", "red", 15, 18), number, 15, "aa")
            self.check_broken(book, "one", ("put", "bob", "red", 0, None), number, 10, "ada")
            self.check_broken(book, "one", ("put", "dot", "red", LAST, None), number, LAST, "cy")
            self.assertEqual(book.tell("one", ("put", "dot", "red", 12, 15)), len(ROW) + 1)

    def test_breaking_named(self):
        book = book_told()
        self.check_broken(book, "one", ("put", "dot", "green", 0, 5), 1, 0, "dot")
        self.check_broken(book, "one", ("put", "dot", "blue", 30, 50), 1, 40, "dot")
        self.check_broken(book, "one", ("put", "dot", "ada", LAST, None), 1, LAST, "dot")
        # A worth of the other sheet is no key of it.
        self.check_broken(book, "one", ("put", "dot", "warm", 3, 5), 1, 3, "dot")

    def test_a_clear_that_breaks_named(self):
        book = book_told()
        self.check_broken(book, "two", ("clear", "red", 0, None), 1, 10, "ada")
        self.check_broken(book, "two", ("clear", "red", 19, 300), 1, 19, "ada")
        self.check_broken(book, "two", ("clear", "red", LAST, None), 1, LAST, "cy")
        self.check_broken(book, "two", ("clear", "blue", 0, 16), 1, 15, "bob")
        self.assertEqual(book.tell("two", ("clear", "red", 20, 25)), len(ROW) + 1)
        self.assertEqual(book.tell("two", ("clear", "red", 12, 15)), len(ROW) + 2)

    def test_breaking_still(self):
        book = book_told()
        self.check_broken(book, "two", ("put", "red", "hot", 5, 9), 2, 5, "red")
        self.check_broken(book, "two", ("put", "red", "hot", 0, 9), 2, 9, "red")
        self.check_broken(book, "two", ("put", "blue", "hot", 100, None), 2, 100, "blue")
        self.assertEqual(book.tell("two", ("put", "red", "hot", 0, None)), len(ROW) + 1)

    def test_breaking_several_tells_of_the_first(self):
        row = [("two", ("put", "red", "warm", 0, 40)), ("one", ("put", "ada", "red", 20, 30))]
        alone, named, still = Alone("one"), Named("one", "two"), Still("one")
        telling = ("put", "bob", "red", 25, None)
        for given, place in (
            ([alone], (0, 25, "ada")),
            ([named], (0, 40, "bob")),
            ([alone, named], (0, 25, "ada")),
            ([named, alone], (0, 40, "bob")),
            ([still, named, alone], (1, 40, "bob")),
            ([Rule(), alone, alone], (1, 25, "ada")),
        ):
            self.check_broken(book_told(row, given), "one", telling, *place)
        telling = ("put", "ada", "blue", 0, 9)
        for given, place in (
            ([still], (0, 20, "ada")),
            ([named], (0, 0, "ada")),
            ([still, named], (0, 20, "ada")),
            ([named, still], (0, 0, "ada")),
            ([alone, still, named], (1, 20, "ada")),
        ):
            self.check_broken(book_told(row, given), "one", telling, *place)

    def test_putting_right_what_would_break(self):
        book = book_told()
        telling = ("put", "dot", "green", 0, 9)
        self.check_broken(book, "one", telling, 1, 0, "dot")
        book.tell("two", ("put", "green", "mild", 0, 5))
        self.check_broken(book, "one", telling, 1, 5, "dot")
        book.tell("two", ("put", "green", "mild", 5, 9))
        self.assertEqual(book.tell("one", telling), len(ROW) + 3)
        telling = ("put", "ede", "red", 0, 12)
        self.check_broken(book, "one", telling, 0, 10, "ada")
        book.tell("one", ("clear", "ada", 10, 12))
        self.assertEqual(book.tell("one", telling), len(ROW) + 5)
        telling = ("put", "blue", "hot", 60, 70)
        self.check_broken(book, "two", telling, 2, 60, "blue")
        book.tell("one", ("clear", "bob", 0, None))
        book.tell("two", ("clear", "blue", 0, None))
        self.assertEqual(book.tell("two", telling), len(ROW) + 8)

    # The line as it would be is looked at, not the telling by itself.
    def test_a_telling_that_covers_what_would_break(self):
        book = book_told([("one", ("put", "ada", "red", 0, 9))], [Still("one")])
        self.check_broken(book, "one", ("put", "ada", "blue", 0, 8), 0, 8, "ada")
        self.assertEqual(book.tell("one", ("put", "ada", "blue", 0, 9)), 2)
        self.assertEqual(book.tell("one", ("put", "ada", "blue", 5, None)), 3)
        self.check_broken(book, "one", ("put", "ada", "red", 0, 9), 0, 9, "ada")

    def test_a_named_of_one_sheet_twice(self):
        book = book_told([], [Named("one", "one")])
        self.check_broken(book, "one", ("put", "ada", "bob", 0, 9), 0, 0, "ada")
        self.assertEqual(book.tell("one", ("put", "ada", "ada", 0, 9)), 1)
        self.assertEqual(book.tell("one", ("put", "bob", "ada", 3, 9)), 2)
        self.check_broken(book, "one", ("clear", "ada", 5, None), 0, 5, "bob")
        self.check_broken(book, "one", ("put", "bob", "ada", 3, None), 0, 9, "bob")

    def test_what_rules_are_shown(self):
        seen, later = Seen(), Seen()
        book = Book(NAMES, [seen, Alone("one"), later])
        book.tell("one", ("put", "ada", "red", 0, 9))
        book.tell("two", ("put", "red", "warm", 0, None))
        with self.assertRaises(Broken):
            book.tell("one", ("put", "bob", "red", 5, None))
        book.tell("one", ("put", "ada", "blue", 3, 5))
        book.tell("one", ("clear", "ada", 0, None))
        ada = [(0, 9, "red")]
        red = {"red": [(0, None, "warm")]}
        wanted = [
            {"one": {"ada": ada}, "two": {}, "empty": {}},
            {"one": {"ada": ada}, "two": red, "empty": {}},
            {"one": {"ada": ada, "bob": [(5, None, "red")]}, "two": red, "empty": {}},
            {"one": {"ada": [(0, 3, "red"), (3, 5, "blue"), (5, 9, "red")]}, "two": red, "empty": {}},
            {"one": {}, "two": red, "empty": {}},
        ]
        self.assertEqual(seen.shown, wanted)
        del wanted[2]
        self.assertEqual(later.shown, wanted)

    def test_rules_of_other_kinds(self):
        for number in range(3):
            book = Book(NAMES, [Rule()] * number + [Always(), Alone("one")])
            self.check_broken(book, "two", ("put", "ada", "red", 0, 9), number, 7, "ada")


class Refusals(Books):
    def test_no_sheets(self):
        for name in NO_SHEETS:
            book = book_told()
            self.check_still_as_it_was(book, NoSheet, name, ("put", "ada", "red", 0, 9))
            self.check_still_as_it_was(book, NoSheet, name, ("clear", "ada", 0, None))
            self.check_refused(NoSheet, lambda: book.sheet(name))

    def test_no_sheets_of_an_empty_book(self):
        book = Book([], [])
        self.check_refused(NoSheet, lambda: book.tell("one", ("put", "ada", "red", 0, 9)))
        self.check_refused(NoSheet, lambda: book.sheet("one"))
        self.assertEqual((book.knowings(), book.tellings(), book.known(0)), (0, [], []))

    def test_no_names(self):
        for name in NO_NAMES:
            book = book_told()
            for telling in (("put", name, "red", 0, 9), ("put", "ada", name, 0, 9), ("clear", name, 0, None)):
                self.check_still_as_it_was(book, NoName, "one", telling)

    def test_no_stretches(self):
        for begin, end in NO_STRETCHES:
            book = book_told()
            for telling in (("put", "ada", "red", begin, end), ("put", "new", "new", begin, end), ("clear", "ada", begin, end)):
                self.check_still_as_it_was(book, NoStretch, "one", telling)

    def test_which_is_ahead_of_which(self):
        # Whatever is taken would be Broken.
        book = Book(["one"], [Always()])
        self.check_refused(Broken, lambda: book.tell("one", ("put", "ada", "red", 0, 9)))
        for begin, end in ((0, 9), (0, None)) + NO_STRETCHES[::5]:
            for key, worth in product(("ada",) + NO_NAMES, repeat=2):
                put, clear = ("put", key, worth, begin, end), ("clear", key, begin, end)
                for name in ("two", "", None, []):
                    self.check_refused(NoSheet, lambda: book.tell(name, put))
                    self.check_refused(NoSheet, lambda: book.tell(name, clear))
                if (key, worth) != ("ada", "ada"):
                    self.check_refused(NoName, lambda: book.tell("one", put))
                if key != "ada":
                    self.check_refused(NoName, lambda: book.tell("one", clear))
        for begin, end in NO_STRETCHES:
            self.check_refused(NoStretch, lambda: book.tell("one", ("put", "ada", "red", begin, end)))
            self.check_refused(NoStretch, lambda: book.tell("one", ("clear", "ada", begin, end)))
        self.assertEqual((book.knowings(), book.sheet("one").knowings()), (0, 0))

    def test_no_rule_is_asked_ahead_of_them(self):
        seen = Seen()
        book = Book(["one"], [seen])
        self.check_refused(NoSheet, lambda: book.tell("two", ("put", "ada", "red", 0, 9)))
        self.check_refused(NoName, lambda: book.tell("one", ("put", "Ada", "red", 0, 9)))
        self.check_refused(NoStretch, lambda: book.tell("one", ("put", "ada", "red", 9, 9)))
        self.assertEqual(seen.shown, [])

    def test_behind_a_refusal_it_goes_on(self):
        book = Book(NAMES, rules())
        for number, (name, telling) in enumerate(ROW):
            self.check_refuses_some(book)
            self.assertEqual(book.tell(name, telling), number + 1)
        self.assertEqual(view(book), view(book_told()))


class Known(Books):
    def test_each_knowing(self):
        wanted = [(0, 0), (0, 1), (1, 1), (1, 2), (2, 2), (3, 2), (3, 3), (4, 3), (5, 3)]
        book = Book(NAMES, rules())
        for knowing in range(len(ROW) + 1):
            for elder in range(knowing + 1):
                one, two = wanted[elder]
                self.assertEqual(book.known(elder), [("empty", 0), ("one", one), ("two", two)])
            if knowing < len(ROW):
                self.check_refused(NoKnowing, lambda: book.known(knowing + 1))
                book.tell(*ROW[knowing])

    def test_sorted_by_name(self):
        names = ["m", "ba", "z", "b", "a", "abcdefgh"]
        book = Book(names, [])
        for name in names[:3]:
            book.tell(name, ("put", "ada", "red", 0, 9))
        wanted = [("a", 0), ("abcdefgh", 0), ("b", 0), ("ba", 1), ("m", 1), ("z", 1)]
        self.assertEqual(book.known(3), wanted)
        self.assertEqual(book.known(0), [(name, 0) for name in sorted(names)])

    def test_no_knowings(self):
        for book in (Book([], []), Book(NAMES, rules()), book_told()):
            last = book.knowings()
            for knowing in (-1, -2, -HUGE, last + 1, last + 2, HUGE):
                self.check_refused(NoKnowing, lambda: book.known(knowing))
            self.assertEqual(book.knowings(), last)

    def test_a_refused_telling_is_no_knowing(self):
        book = book_told()
        self.check_refused(Broken, lambda: book.tell("one", ("put", "new", "none", 0, 5)))
        self.check_refused(NoKnowing, lambda: book.known(len(ROW) + 1))
        self.assertEqual(book.known(len(ROW)), [("empty", 0), ("one", 5), ("two", 3)])


class Sheets(Books):
    def test_each_is_a_tiled_one_and_answers_for_itself(self):
        book = book_told()
        for name in NAMES:
            sheet = book.sheet(name)
            self.assertIsInstance(sheet, Tiled)
            self.assertEqual(sheet_view(sheet), sheet_view(sheet_told(Tiled, told_to(ROW, name))))
        one = book.sheet("one")
        self.assertEqual(one.line_at("ada", 5), [(10, 12, "red"), (15, 20, "red")])
        self.assertEqual(one.line_at("ada", 2), [(10, 20, "red")])
        self.assertEqual(story(one, "ada", 13), [(1, 3, "red")])
        self.assertEqual(book.sheet("two").keys_at(3), ["blue", "red"])
        self.check_refused(NoKnowing, lambda: one.line_at("ada", 6))
        self.assertEqual(by_key(one, 5, book.sheet("two"), 3), [])

    def test_a_sheet_asked_for_early_knows_what_is_told_later(self):
        book = Book(NAMES, rules())
        sheet = book.sheet("one")
        for name, telling in ROW:
            book.tell(name, telling)
        self.assertEqual(sheet_view(sheet), sheet_view(book.sheet("one")))

    def test_names_at_their_bounds(self):
        for name in ("a", "z", "abcdefgh", "zzzzzzzz"):
            book = Book([name], [Alone(name), Named(name, name), Still(name)])
            self.assertEqual(book.tell(name, ("put", "ada", "ada", LAST, None)), 1)
            self.assertEqual(book.sheet(name).line_at("ada", 1), [(LAST, None, "ada")])


class ByMoments(Books):
    # Tells the row to a book, with each answer as it is read, and gives back the tellings that were taken.
    def check_row(self, book, some, row):
        taken = []
        for name, telling in row:
            place = broken_read(some, taken + [(name, telling)])
            if place is None:
                taken.append((name, telling))
                self.assertEqual(book.tell(name, telling), len(taken))
            else:
                with self.assertRaises(Broken) as caught:
                    book.tell(name, telling)
                error = caught.exception
                self.assertEqual((error.rule, error.moment, error.key), place, (taken, name, telling))
            self.assertEqual((book.knowings(), book.tellings()), (len(taken), taken))
        return taken

    def check_knowings(self, book, some, taken):
        for knowing in range(len(taken) + 1):
            known = dict(book.known(knowing))
            counts = {name: len(told_to(taken[:knowing], name)) for name in ("one", "two")}
            self.assertEqual(known, counts)
            tables = {name: {} for name in counts}
            for name, key in product(counts, ("x", "y", "z", "a", "b")):
                sheet = book.sheet(name)
                row = [sheet.worth_at(key, moment, known[name]) for moment in tuple(range(6)) + FAR]
                if any(row):
                    tables[name][key] = row
            for rule, read in some:
                self.assertIsNone(read(tables, 8))

    def test_long_rows(self):
        chance = Random(7)
        taken, refused = {}, 0
        for numbers in SETS * 4:
            some = [RULES[number] for number in numbers]
            book = Book(["two", "one"], [rule for rule, read in some])
            row = long_book_row(chance, 30)
            told = self.check_row(book, some, row)
            self.check_knowings(book, some, told)
            for name in ("one", "two"):
                wanted = sheet_told(Tiled, told_to(told, name))
                self.assertEqual(book.sheet(name).tiles(), wanted.tiles())
            taken[numbers] = taken.get(numbers, 0) + len(told)
            refused += len(row) - len(told)
        # So that the rows above are no idle ones.
        self.assertGreater(min(taken.values()), 12)
        self.assertGreater(refused, 300)


class AskersOwn(Books):
    def test_what_the_asker_does_changes_nothing(self):
        book = book_told()
        before = view(book)
        for call in (book.tellings, lambda: book.known(8), lambda: book.known(0), book.sheet("one").tiles,
                     lambda: book.sheet("one").line_at("ada", 5), lambda: book.sheet("two").keys_at(3)):
            self.check_own(call)
            self.assertEqual(view(book), before)
        book.tell("one", ("put", "ada", "red", 12, 15))
        wanted = book_told(ROW + [("one", ("put", "ada", "red", 12, 15))])
        self.assertEqual(view(book), view(wanted))

    def test_told_tellings_are_new(self):
        book = book_told()
        for (name, telling), (other, again), (given, handed) in zip(book.tellings(), book.tellings(), ROW):
            self.assertEqual(telling, handed)
            self.assertIsNot(telling, again)
            self.assertIsNot(telling, handed)

    def test_told_earlier_stay(self):
        book = Book(NAMES, rules())
        told = []
        for number, (name, telling) in enumerate(ROW):
            told.append((book.tellings(), book.known(number), book.known(0)))
            book.tell(name, telling)
        for number, (tellings, known, start) in enumerate(told):
            self.assertEqual(tellings, ROW[:number])
            self.assertEqual(known, book.known(number))
            self.assertEqual(start, [("empty", 0), ("one", 0), ("two", 0)])

    def test_names_and_rules_changed_behind_the_making(self):
        names, given = list(NAMES), rules()
        book = Book(names, given)
        change_handed_in(names, given)
        for name, telling in ROW:
            book.tell(name, telling)
        self.assertEqual(view(book), view(book_told()))
        self.check_broken(book, "two", ("put", "red", "hot", 5, 9), 2, 5, "red")
        self.check_broken(book, "one", ("put", "dot", "red", 0, None), 0, 10, "ada")
        self.check_still_as_it_was(book, NoSheet, "three", ("put", "red", "hot", 5, 9))

    def test_names_and_rules_are_not_changed(self):
        def use(names, given):
            book = Book(names, given)
            for name, telling in ROW:
                book.tell(name, telling)
            self.check_broken(book, "two", ("put", "red", "hot", 5, 9), 2, 5, "red")

        self.check_stay(use)

    def test_a_list_that_was_told_is_changed_behind_it(self):
        telling = ["put", "ada", "red", 10, 20]
        book = book_told([("one", telling)], [])
        telling[1:] = ["bob", "blue", 0, None]
        self.assertEqual(book.tellings(), [("one", ("put", "ada", "red", 10, 20))])
        self.assertEqual(book.sheet("one").line_at("ada", 1), [(10, 20, "red")])

    def test_two_books_beside_each_other(self):
        given = rules()
        one, other = Book(NAMES, given), Book(NAMES, given)
        for name, telling in ROW:
            one.tell(name, telling)
        self.assertEqual(view(other), view(Book(NAMES, given)))
        self.assertEqual(other.tell("two", ("put", "red", "hot", 0, 3)), 1)
        self.assertEqual(view(one), view(book_told()))
        self.check_broken(other, "one", ROW[1][1], 1, 10, "ada")

    def test_asking_changes_nothing(self):
        book = book_told()
        before = view(book)
        self.check_refused(NoKnowing, lambda: book.known(9))
        self.check_refused(NoSheet, lambda: book.sheet("three"))
        book.sheet("empty").line_at("ada", 0)
        self.assertEqual(view(book), before)


class Sizes(Books):
    def test_three_hundred_sheets_and_rules(self):
        names = [one + two for one in "abcdefghijklmnopqrst" for two in "abcdefghijklmno"]
        book = Book(names, [Alone(name) for name in names])
        for number, name in enumerate(names):
            self.assertEqual(book.tell(name, ("put", "ada", "red", 0, 9)), number + 1)
        self.assertEqual(book.known(150), [(name, 1 if number < 150 else 0) for number, name in enumerate(names)])
        error = self.check_refused(Broken, lambda: book.tell(names[299], ("put", "bob", "red", 5, None)))
        self.assertEqual((error.rule, error.moment, error.key), (299, 5, "ada"))

    def test_a_thousand_tellings(self):
        book = Book(NAMES, rules())
        for number in range(500):
            book.tell("two", ("put", "red", "warm", 3 * number, 3 * number + 2))
            book.tell("one", ("put", "ada", "red", 3 * number, 3 * number + 1))
        self.assertEqual(book.known(999), [("empty", 0), ("one", 499), ("two", 500)])
        error = self.check_refused(Broken, lambda: book.tell("two", ("clear", "red", 600, 601)))
        self.assertEqual((error.rule, error.moment, error.key), (1, 600, "ada"))
        self.assertEqual(len(book.tellings()), 1000)


if __name__ == "__main__":
    unittest.main()
