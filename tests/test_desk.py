import unittest
from itertools import product

from by_moments import Always, Case, LAST, NAMES, NO_NUMBERS, ROW, book_told, change_handed_in, rules, spoilt
from twotimes.asks import all_at, story
from twotimes.desk import Desk
from twotimes.errors import Broken, NoKnowing, NoName, NoRow, NoSheet, NoStretch
from twotimes.logs import line_of
from twotimes.rules import Alone, Named

# The greatest number of thirteen figures; it is no moment and no knowing.
MOST = 9999999999999
ROWS = [line_of(name, telling) for name, telling in ROW]
# What is answered behind ROWS; the sheet "one" has five tellings then, "two" has three.
ANSWERS = (
    ("what one ada 10 now", "red"), ("what one ada 11 now", "red"), ("what one ada 12 now", "-"),
    ("what one ada 14 now", "-"), ("what one ada 15 now", "red"), ("what one ada 20 now", "-"),
    ("what one ada 12 2", "red"), ("what one ada 12 3", "-"), ("what one ada 12 0", "-"), ("what one ada 12 1", "red"),
    ("what one ada 12 5", "-"), ("what one ada 0 now", "-"), ("what one never 0 now", "-"),
    ("what two red 0 1", "warm"), ("what two red 0 0", "-"), ("what two red 0 now", "warm"),
    (f"what two red {LAST} now", "warm"), (f"what two red {LAST} 3", "warm"), (f"what two blue {LAST} now", "-"),
    ("what empty ada 0 now", "-"), (f"what empty ada {LAST} 0", "-"),
    ("line one ada now", "10-12:red 15-20:red"), ("line one ada 5", "10-12:red 15-20:red"),
    ("line one ada 2", "10-20:red"), ("line one ada 0", "-"), ("line one cy now", "25--:red"),
    ("line one never now", "-"), ("line two red 1", "0--:warm"), ("line two blue 2", "5-50:cold"),
    ("line two blue now", "5-40:cold"), ("line empty ada now", "-"), ("line empty ada 0", "-"),
    ("all one 17 now", "ada:red bob:blue"), ("all one 17 1", "ada:red"), ("all one 17 0", "-"),
    ("all one 25 now", "bob:blue cy:red"), ("all one 0 now", "-"), ("all two 5 now", "blue:cold red:warm"),
    ("all two 4 3", "red:warm"), (f"all one {LAST} now", "cy:red"), ("all empty 0 now", "-"),
    (f"all empty {LAST} 0", "-"),
    ("story one ada 13", "1-3:red"), ("story one ada 11", "1--:red"), ("story one ada 0", "-"),
    ("story one never 0", "-"), ("story two blue 45", "2-3:cold"), ("story two red 0", "1--:warm"),
    (f"story two red {LAST}", "1--:warm"), ("story empty ada 0", "-"),
    ("tiles one", "5"), ("tiles two", "3"), ("tiles empty", "0"),
)
NO_KNOWINGS = (6, 8, LAST, MOST)
# Each form once.
FORMS = (
    "put one ada red 10 20", "put one cy red 25 -", "clear one ada 12 15", "clear two blue 40 -", "what one ada 11 now",
    "what one ada 11 1", "line one ada now", "line one ada 1", "all one 17 now", "all one 17 1", "story one ada 13",
    "tiles one",
)


def desk_told(rows=ROWS, given=None):
    desk = Desk(NAMES, rules() if given is None else given)
    for row in rows:
        desk.say(row)
    return desk


class Desks(Case):
    def check_answers(self, desk, answers=ANSWERS):
        for row, wanted in answers:
            told = desk.say(row)
            self.assertEqual(told, wanted, row)
            self.assertIs(type(told), str)

    def check_says_refused(self, desk, kind, row):
        return self.check_refused(kind, lambda: desk.say(row))


class Tellings(Desks):
    def test_are_answered_by_the_books_knowing(self):
        desk = Desk(NAMES, rules())
        for number, row in enumerate(ROWS):
            told = desk.say(row)
            self.assertEqual(told, str(number + 1))
            self.assertIs(type(told), str)

    def test_with_and_without_an_end(self):
        desk = Desk(["one"], [])
        row = (
            ("put one ada red 0 5", "0-5:red"), ("put one ada blue 7 -", "0-5:red 7--:blue"),
            (f"put one ada red 9 {LAST}", f"0-5:red 7-9:blue 9-{LAST}:red {LAST}--:blue"),
            ("clear one ada 3 8", f"0-3:red 8-9:blue 9-{LAST}:red {LAST}--:blue"),
            (f"clear one ada {LAST} -", f"0-3:red 8-9:blue 9-{LAST}:red"), ("clear one ada 0 -", "-"),
            (f"put one ada red {LAST} -", f"{LAST}--:red"),
        )
        for number, (telling, line) in enumerate(row):
            self.assertEqual(desk.say(telling), str(number + 1))
            self.assertEqual(desk.say("line one ada now"), line)
        for number, (telling, line) in enumerate(row):
            self.assertEqual(desk.say(f"line one ada {number + 1}"), line)

    def test_that_change_no_line(self):
        desk = desk_told()
        for number in range(9, 12):
            self.assertEqual(desk.say("clear empty never 0 -"), str(number))
        self.assertEqual((desk.say("tiles empty"), desk.say("line empty never 3")), ("0", "-"))

    def test_more_than_nine(self):
        desk = Desk(["one"], [])
        for number in range(1, 120):
            self.assertEqual(desk.say(f"put one ada red {2 * number} {2 * number + 1}"), str(number))
            self.assertEqual(desk.say("tiles one"), str(number))
        self.assertEqual(desk.say("story one ada 200"), "100--:red")
        self.assertEqual(desk.say("what one ada 200 100"), "red")
        self.assertEqual(desk.say("what one ada 200 99"), "-")


class Asks(Desks):
    def test_behind_a_row(self):
        desk = desk_told()
        self.check_answers(desk)
        self.check_answers(desk)

    def test_a_new_desk(self):
        desk = Desk(NAMES, rules())
        for name, knowing in product(NAMES, ("0", "now")):
            for row in (f"what {name} ada 0 {knowing}", f"line {name} ada {knowing}", f"all {name} 0 {knowing}",
                        f"story {name} ada 0"):
                self.assertEqual(desk.say(row), "-")
            self.assertEqual(desk.say(f"tiles {name}"), "0")

    def test_several_in_one_answer(self):
        rows = ["put one ada a 0 9", "put one ada b 0 5", "clear one ada 0 3", "put one abe b 2 -", "put one ada a 0 9"]
        rows += ["put one ada b 0 9"]
        self.check_answers(desk_told(rows, []), (
            ("story one ada 0", "1-2:a 2-3:b 5-6:a 6--:b"), ("story one ada 4", "1-2:a 2-5:b 5-6:a 6--:b"),
            ("story one ada 7", "1-6:a 6--:b"), ("line one ada 4", "3-5:b 5-9:a"), ("line one ada 5", "0-9:a"),
            ("all one 4 4", "abe:b ada:b"), ("all one 2 now", "abe:b ada:b"), ("all one 9 now", "abe:b"),
            ("all one 1 5", "ada:a"), ("tiles one", "7"),
        ))

    def test_now_is_the_sheets_last_knowing(self):
        desk = Desk(["one", "two"], [])
        desk.say("put one ada red 0 5")
        for number in range(1, 5):
            desk.say(f"put two ada red 0 {number}")
        self.assertEqual(desk.say("line one ada now"), "0-5:red")
        self.assertEqual(desk.say("line one ada 1"), "0-5:red")
        self.assertEqual(desk.say("line two ada now"), desk.say("line two ada 4"))
        for row in ("line one ada 2", "what one ada 0 5", "all one 0 2", "line two ada 5"):
            self.check_says_refused(desk, NoKnowing, row)

    def test_answers_are_those_of_the_book(self):
        desk, book = desk_told(), book_told()
        shown = {None: "-"}
        for name, key in product(NAMES, ("ada", "bob", "cy", "never", "red", "blue")):
            sheet = book.sheet(name)
            for moment in (0, 5, 10, 11, 12, 15, 20, 25, 30, 40, 50, LAST):
                told = [f"{since}-{'-' if until is None else until}:{worth}"
                        for since, until, worth in story(sheet, key, moment)]
                self.assertEqual(desk.say(f"story {name} {key} {moment}"), " ".join(told) or "-")
                for knowing in range(sheet.knowings() + 1):
                    worth = sheet.worth_at(key, moment, knowing)
                    self.assertEqual(desk.say(f"what {name} {key} {moment} {knowing}"), shown.get(worth, worth))
                    held = [":".join(pair) for pair in all_at(sheet, moment, knowing)]
                    self.assertEqual(desk.say(f"all {name} {moment} {knowing}"), " ".join(held) or "-")
            self.assertEqual(desk.say(f"tiles {name}"), str(len(sheet.tiles())))

    def test_asking_changes_nothing(self):
        desk = desk_told()
        self.check_answers(desk)
        self.assertEqual(desk.say("clear empty ada 0 -"), "9")
        self.check_answers(desk, [pair for pair in ANSWERS if "empty" not in pair[0]])


class NoRows(Desks):
    def test_spoilt_rows(self):
        desk = desk_told()
        for form in FORMS:
            for row in spoilt(form):
                self.check_says_refused(desk, NoRow, row)
        self.check_answers(desk)

    def test_the_forms_as_they_are(self):
        desk = Desk(NAMES, [])
        for form in FORMS:
            self.assertIs(type(desk.say(form)), str)

    def test_too_few_and_too_many_words(self):
        # A 0 may stand for every word but the first one; that there is no such sheet comes behind the form.
        desk = desk_told()
        forms = {"put": 5, "clear": 4, "what": 4, "line": 3, "all": 3, "story": 3, "tiles": 1}
        for first, right in forms.items():
            for many in range(12):
                kind = NoSheet if many == right else NoRow
                self.check_says_refused(desk, kind, " ".join([first] + ["0"] * many))

    def test_other_first_words(self):
        desk = desk_told()
        words = ("", "-", "when", "who", "tell", "forget", "keys", "log", "what?", "WHAT", "Line", "ALL", "tile", "0")
        for first in words:
            for many in range(7):
                self.check_says_refused(desk, NoRow, " ".join([first] + ["one", "ada", "red", "0", "5", "now"][:many]))

    def test_no_numbers(self):
        desk = desk_told()
        for bad in NO_NUMBERS:
            for row in (
                f"put one ada red {bad} -", f"put one ada red 0 {bad}", f"clear one ada {bad} 9",
                f"clear one ada 0 {bad}", f"what one ada {bad} now", f"what one ada {bad} 0", f"what one ada 0 {bad}",
                f"line one ada {bad}",
                f"all one {bad} now", f"all one {bad} 0", f"all one 0 {bad}", f"story one ada {bad}",
            ):
                self.check_says_refused(desk, NoRow, row)
        self.check_answers(desk)

    def test_a_dash_or_now_where_it_stands_for_nothing(self):
        desk = desk_told()
        for row in (
            "put one ada red - 9", "put one ada red - -", "put one ada red 0 now", "put one ada red now 9",
            "clear one ada - -", "clear one ada 0 now", "what one ada - now", "what one ada now now",
            "what one ada 0 -", "line one ada -", "all one - now", "all one now now", "all one 0 -",
            "story one ada -", "story one ada now", "what one ada 0 NOW", "what one ada 0 Now", "line one ada nows",
        ):
            self.check_says_refused(desk, NoRow, row)

    def test_ahead_of_all(self):
        desk = desk_told([], [Always()])
        for row in (
            "put three Ada RED 05 5", "put three Ada RED 5 05", "put one Ada RED 5", "clear three Ada - -",
            "clear one Ada 5 +5", "what three Ada 01 9", f"what one Ada {MOST} 09", "what one Ada 0 -",
            "line three Ada -1", "line one Ada 10000000000000", f"all three 00 {MOST}", f"all one {MOST} x",
            "story three Ada x", "story one Ada", "tiles three x", "tiles ", "put one ada red 5 5 5",
        ):
            self.check_says_refused(desk, NoRow, row)


class Refusals(Desks):
    def test_no_sheets(self):
        desk = desk_told()
        for name in ("three", "on", "onee", "ONE", "One", "abcdefghi", "-", "now", "0", "ada", "put", "~"):
            for row in (
                f"put {name} ada red 0 5", f"clear {name} ada 0 -", f"what {name} ada 0 now", f"line {name} ada 0",
                f"all {name} 0 now", f"story {name} ada 0", f"tiles {name}",
                # Whatever else is wrong comes behind it.
                f"put {name} Ada RED 5 5", f"clear {name} Ada {MOST} 0", f"what {name} Ada {MOST} {MOST}",
                f"line {name} Ada {MOST}", f"all {name} {MOST} {MOST}", f"story {name} Ada {MOST}",
            ):
                self.check_says_refused(desk, NoSheet, row)
        self.check_answers(desk)

    def test_no_sheets_of_an_empty_desk(self):
        desk = Desk([], [])
        for form in FORMS:
            self.check_says_refused(desk, NoSheet, form)

    def test_no_knowings(self):
        desk = desk_told()
        for knowing, key, moment in product(NO_KNOWINGS, ("ada", "never", "Ada", "-"), (0, LAST, LAST + 1, MOST)):
            self.check_says_refused(desk, NoKnowing, f"what one {key} {moment} {knowing}")
            self.check_says_refused(desk, NoKnowing, f"line one {key} {knowing}")
            self.check_says_refused(desk, NoKnowing, f"all one {moment} {knowing}")
        self.check_says_refused(desk, NoKnowing, "what empty ada 0 1")
        self.check_says_refused(desk, NoKnowing, "line two red 4")
        self.check_answers(desk)

    def test_no_names(self):
        desk = desk_told()
        for name in ("Ada", "ADA", "a1", "abcdefghi", "-", "0", "now1", "a:b", "~"):
            for row in (
                f"put one {name} red 0 5", f"put one ada {name} 0 5", f"put one {name} {name} 0 -",
                f"clear one {name} 0 5", f"what one {name} 0 now", f"what one {name} 0 0", f"line one {name} now",
                f"line one {name} 5",
                f"story one {name} 0",
                # What is no stretch and no moment comes behind it.
                f"put one {name} red 5 5", f"put one ada {name} {MOST} -", f"clear one {name} 5 4",
                f"what one {name} {LAST + 1} now", f"what one {name} {MOST} 5", f"story one {name} {MOST}",
            ):
                self.check_says_refused(desk, NoName, row)
        self.check_answers(desk)

    def test_no_stretches(self):
        desk = desk_told()
        for row in (
            "put one ada red 5 5", "put one ada red 5 4", "put one ada red 0 0", f"put one ada red {LAST + 1} -",
            f"put one ada red 0 {LAST + 1}", f"put one ada red 0 {MOST}", f"put one ada red {LAST} {LAST}",
            "clear one ada 5 5", "clear one ada 9 0", f"clear one ada {MOST} -", f"clear two ada {LAST} {MOST}",
            f"what one ada {LAST + 1} now", f"what one ada {MOST} 0", f"what one never {MOST} 5",
            f"all one {LAST + 1} now", f"all one {MOST} 0", f"all empty {MOST} now", f"story one ada {LAST + 1}",
            f"story one never {MOST}",
            f"story empty ada {MOST}",
        ):
            self.check_says_refused(desk, NoStretch, row)
        self.check_answers(desk)

    def test_broken(self):
        desk = desk_told()
        for row, place in (
            ("put one new none 0 1", (1, 0, "new")), ("put one new red 0 11", (0, 10, "ada")),
            ("put two red hot 7 8", (2, 7, "red")), ("clear two red 0 -", (1, 10, "ada")),
            ("put one ada red 20 -", (0, 25, "ada")), ("clear two blue 29 30", (1, 29, "bob")),
        ):
            error = self.check_says_refused(desk, Broken, row)
            self.assertEqual((error.rule, error.moment, error.key), place)
            self.check_answers(desk)

    def test_broken_comes_last(self):
        desk = Desk(["one"], [Always()])
        self.check_says_refused(desk, Broken, "put one ada red 0 5")
        self.check_says_refused(desk, Broken, "clear one ada 0 -")
        for kind, row in (
            (NoRow, "put one ada red 0 05"), (NoRow, "clear one ada - 5"), (NoSheet, "put two Ada red 5 5"),
            (NoSheet, "clear two ada 0 -"), (NoName, "put one Ada red 5 5"), (NoName, "put one ada Red 0 5"),
            (NoStretch, "put one ada red 5 5"), (NoStretch, f"clear one ada {MOST} -"),
        ):
            self.check_says_refused(desk, kind, row)

    def test_behind_a_refusal_the_next_telling_has_the_next_knowing(self):
        desk = Desk(NAMES, rules())
        for number, row in enumerate(ROWS):
            before = [desk.say(ask) for ask in self.asks_without_knowings()]
            for kind, bad in (
                (NoRow, row + " "), (NoRow, ""), (NoSheet, "put three ada red 0 5"), (NoName, "put two Ada red 0 5"),
                (NoStretch, "clear two red 5 5"), (Broken, "put one new none 0 5"), (NoKnowing, "line one ada 999"),
            ):
                self.check_says_refused(desk, kind, bad)
                self.assertEqual([desk.say(ask) for ask in self.asks_without_knowings()], before)
            self.assertEqual(desk.say(row), str(number + 1))
        self.check_answers(desk)

    def asks_without_knowings(self):
        return [ask for ask, wanted in ANSWERS if ask.endswith("now") or ask.startswith(("story", "tiles"))]


class HandedIn(Desks):
    def test_names_and_rules_changed_behind_the_making(self):
        names, given = list(NAMES), rules()
        desk = Desk(names, given)
        change_handed_in(names, given)
        for number, row in enumerate(ROWS):
            self.assertEqual(desk.say(row), str(number + 1))
        self.check_answers(desk)
        self.check_says_refused(desk, NoSheet, "tiles three")
        error = self.check_says_refused(desk, Broken, "put one new none 0 1")
        self.assertEqual((error.rule, error.moment, error.key), (1, 0, "new"))

    def test_names_and_rules_are_not_changed(self):
        def use(names, given):
            desk = Desk(names, given)
            for row in ROWS:
                desk.say(row)
            self.check_says_refused(desk, Broken, "put one new none 0 1")

        self.check_stay(use)

    def test_two_beside_each_other(self):
        given = [Alone("one"), Named("one", "two")]
        one, other = Desk(NAMES, given), Desk(NAMES, given)
        for row in ROWS:
            one.say(row)
        self.assertEqual((other.say("tiles one"), other.say("put two ada red 0 5")), ("0", "1"))
        self.check_answers(one)


if __name__ == "__main__":
    unittest.main()
