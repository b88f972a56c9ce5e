import unittest
from itertools import product
from random import Random

from by_moments import (
    Case, FAR, HUGE, LAST, NO_NAMES, NO_STRETCHES, has, long_rows, sheet_told, story_read, tellings_of, tiles_read,
)
from twotimes.asks import all_at, story, when, who
from twotimes.changes import changes, table_at
from twotimes.errors import Forgotten, NoKnowing, NoName, NoStretch
from twotimes.forgets import Short
from twotimes.joins import by_key, by_worth
from twotimes.sheets import Sheet
from twotimes.tiles import Tiled, tiles_of

ROW = [
    ("put", "ada", "red", 10, None),
    ("put", "bob", "red", 0, 15),
    ("put", "ada", "blue", 20, 30),
    ("clear", "bob", 0, None),
    ("put", "ada", "red", 20, 25),
    ("put", "bob", "blue", 5, LAST),
    ("clear", "ada", 0, 12),
]
TILES = [
    ("ada", "red", 10, None, 1, 3), ("ada", "red", 10, 20, 3, 5), ("ada", "blue", 20, 30, 3, 5),
    ("ada", "red", 30, None, 3, None), ("ada", "red", 10, 25, 5, 7), ("ada", "blue", 25, 30, 5, None),
    ("ada", "red", 12, 25, 7, None), ("bob", "red", 0, 15, 2, 4), ("bob", "blue", 5, LAST, 6, None),
]
KEYS = ("ada", "bob", "never")
MOMENTS = (0, 9, 10, 12, 14, 15, 19, 20, 24, 25, 29, 30, 31) + FAR
NO_MOMENTS = (-1, -HUGE, LAST + 1, HUGE)


def short_told(row=ROW, *forgotten):
    sheet = sheet_told(Short, row)
    for knowing in forgotten:
        sheet.forget(knowing)
    return sheet


# The tiles as [27] says it, made of those of a sheet that forgot nothing.
def tiles_left(tiles, knowing):
    left = [tile[:4] + (max(tile[4], knowing), tile[5]) for tile in tiles if tile[5] is None or tile[5] > knowing]
    return sorted(left, key=lambda tile: (tile[0], tile[4], tile[2]))


# Every answer of a sheet for the knowings from one on.
def answers(sheet, first, keys=KEYS, moments=MOMENTS):
    told = []
    for knowing in range(first, sheet.knowings() + 1):
        told.append((sheet.keys_at(knowing), table_at(sheet, knowing)))
        told.append([sheet.line_at(key, knowing) for key in keys])
        told.append([sheet.worth_at(key, moment, knowing) for key in keys for moment in moments])
        told.append([all_at(sheet, moment, knowing) for moment in moments])
        told.append([when(sheet, key, worth, knowing) for key in keys for worth in ("red", "blue", "a", "b")])
        told.append([who(sheet, worth, knowing) for worth in ("red", "blue", "a", "b")])
        for other in range(first, sheet.knowings() + 1):
            told.append((by_key(sheet, knowing, sheet, other), by_worth(sheet, knowing, sheet, other)))
            told.append(changes(sheet, knowing, other))
    return told


def view(sheet):
    stories = [story(sheet, key, moment) for key in KEYS for moment in MOMENTS]
    return (sheet.first(), sheet.knowings(), sheet.tiles(), tiles_of(sheet), stories, answers(sheet, sheet.first()))


class Forgets(Case):
    def check_forgets(self, sheet, knowing, dropped, tiles):
        self.assertEqual(sheet.forget(knowing), dropped)
        self.assertEqual((sheet.tiles(), tiles_of(sheet)), (tiles, tiles))

    def check_unchanged(self, sheet, call):
        before = view(sheet)
        call()
        self.assertEqual(view(sheet), before)


class Forgetting(Forgets):
    def test_is_a_tiled_sheet_that_forgot_nothing_yet(self):
        sheet = Short()
        self.assertIsInstance(sheet, Tiled)
        self.assertIsInstance(sheet, Sheet)
        self.assertEqual((sheet.first(), sheet.knowings(), sheet.tiles(), sheet.keys_at(0)), (0, 0, [], []))
        for number, telling in enumerate(ROW):
            self.assertEqual(sheet.tell(telling), number + 1)
        self.assertEqual((sheet.first(), sheet.tiles()), (0, TILES))
        self.assertEqual(view(sheet), view(sheet_told(Tiled, ROW)))

    def test_each_knowing(self):
        for knowing, dropped in enumerate((0, 0, 0, 1, 2, 4, 4, 5)):
            sheet = short_told()
            self.check_forgets(sheet, knowing, dropped, tiles_left(TILES, knowing))
            self.assertEqual((sheet.first(), sheet.knowings()), (knowing, 7))

    def test_one_in_the_midst(self):
        wanted = [
            ("ada", "red", 10, 20, 4, 5), ("ada", "blue", 20, 30, 4, 5), ("ada", "red", 30, None, 4, None),
            ("ada", "red", 10, 25, 5, 7), ("ada", "blue", 25, 30, 5, None), ("ada", "red", 12, 25, 7, None),
            ("bob", "blue", 5, LAST, 6, None),
        ]
        self.check_forgets(short_told(), 4, 2, wanted)

    def test_the_last_one(self):
        wanted = [
            ("ada", "red", 12, 25, 7, None), ("ada", "blue", 25, 30, 7, None), ("ada", "red", 30, None, 7, None),
            ("bob", "blue", 5, LAST, 7, None),
        ]
        self.check_forgets(short_told(), 7, 5, wanted)

    def test_sorted_by_since_then_begin(self):
        # Told from behind, and so begun in another order than they stand in.
        row = [("put", "ada", "red", begin, begin + 1) for begin in (8, 6, 4, 2, 0)]
        wanted = [("ada", "red", begin, begin + 1, 3, None) for begin in (4, 6, 8)]
        wanted += [("ada", "red", 2, 3, 4, None), ("ada", "red", 0, 1, 5, None)]
        self.check_forgets(short_told(row), 3, 0, wanted)
        wanted = [("ada", "red", begin, begin + 1, 5, None) for begin in (0, 2, 4, 6, 8)]
        self.check_forgets(short_told(row), 5, 0, wanted)

    def test_tiles_that_ended_just_there_just_ahead_and_just_behind(self):
        row = [("put", "ada", "red", 0, 5), ("put", "bob", "red", 0, 5), ("put", "cy", "red", 0, 5)]
        row += [("clear", "ada", 0, 5), ("clear", "bob", 0, 5), ("clear", "cy", 0, 5)]
        ada, bob, cy = [(key, "red", 0, 5, since, since + 3) for key, since in (("ada", 1), ("bob", 2), ("cy", 3))]
        self.check_forgets(short_told(row), 3, 0, [ada[:4] + (3, 4), bob[:4] + (3, 5), cy])
        self.check_forgets(short_told(row), 4, 1, [bob[:4] + (4, 5), cy[:4] + (4, 6)])
        self.check_forgets(short_told(row), 5, 2, [cy[:4] + (5, 6)])
        self.check_forgets(short_told(row), 6, 3, [])

    def test_since_of_those_that_began_just_there_just_ahead_and_just_behind(self):
        row = [("put", key, "red", 0, 5) for key in ("ada", "bob", "cy")]
        for knowing, sinces in ((0, (1, 2, 3)), (1, (1, 2, 3)), (2, (2, 2, 3)), (3, (3, 3, 3))):
            wanted = [(key, "red", 0, 5, since, None) for key, since in zip(("ada", "bob", "cy"), sinces)]
            self.check_forgets(short_told(row), knowing, 0, wanted)

    def test_a_run_that_went_and_came_again(self):
        row = [("put", "ada", "red", 0, 5), ("clear", "ada", 0, 5), ("put", "ada", "red", 0, 5), ("clear", "ada", 0, 5)]
        first, second = ("ada", "red", 0, 5, 1, 2), ("ada", "red", 0, 5, 3, 4)
        for knowing, dropped, wanted in ((1, 0, [first, second]), (2, 1, [second]), (3, 1, [second]), (4, 2, [])):
            self.check_forgets(short_told(row), knowing, dropped, wanted)

    def test_several_behind_each_other(self):
        sheet = short_told()
        for knowing, dropped in ((2, 0), (3, 1), (5, 3), (7, 1)):
            self.check_forgets(sheet, knowing, dropped, tiles_left(TILES, knowing))
            self.assertEqual(sheet.first(), knowing)
            self.assertEqual(view(sheet), view(short_told(ROW, knowing)))

    def test_one_not_above_the_first_one(self):
        for first in range(len(ROW) + 1):
            sheet = short_told(ROW, first)
            for knowing in range(first + 1):
                self.check_unchanged(sheet, lambda: self.assertEqual(sheet.forget(knowing), 0))

    def test_a_sheet_without_tellings(self):
        sheet = Short()
        self.check_unchanged(sheet, lambda: self.assertEqual(sheet.forget(0), 0))
        self.assertEqual(sheet.tell(ROW[0]), 1)
        self.check_forgets(sheet, 1, 0, [("ada", "red", 10, None, 1, None)])

    def test_counts_are_whole_numbers(self):
        sheet = short_told()
        for told in (sheet.forget(0), sheet.forget(4), sheet.forget(3), sheet.first()):
            self.assertIs(type(told), int)

    def test_no_knowings(self):
        for sheet in (Short(), short_told(), short_told(ROW, 4), short_told(ROW, 7)):
            for knowing in (-1, -2, -HUGE, sheet.knowings() + 1, sheet.knowings() + 2, HUGE):
                self.check_unchanged(sheet, lambda: self.check_refused(NoKnowing, lambda: sheet.forget(knowing)))

    def test_two_beside_each_other(self):
        one, other = short_told(), short_told()
        before = view(other)
        one.forget(5)
        self.assertEqual(view(other), before)
        self.assertEqual((Short().first(), other.first()), (0, 0))


class Refusing(Forgets):
    def asks(self, sheet, key, moment, knowing):
        return [
            lambda: sheet.worth_at(key, moment, knowing), lambda: sheet.line_at(key, knowing),
            lambda: sheet.keys_at(knowing), lambda: all_at(sheet, moment, knowing),
            lambda: when(sheet, key, "red", knowing), lambda: when(sheet, "ada", key, knowing),
            lambda: who(sheet, key, knowing), lambda: table_at(sheet, knowing),
        ]

    def test_below_the_first_one(self):
        for first in range(1, len(ROW) + 1):
            sheet = short_told(ROW, first)
            before = view(sheet)
            for knowing in range(first):
                for key, moment in product(("ada", "never") + NO_NAMES, (5,) + NO_MOMENTS):
                    for ask in self.asks(sheet, key, moment, knowing):
                        with self.assertRaises(Forgotten):
                            ask()
                for ask in self.asks(sheet, "ada", 5, knowing):
                    self.check_refused(Forgotten, ask)
            self.assertEqual(view(sheet), before)

    def test_what_is_no_knowing(self):
        for first, knowing in product((0, 1, 7), (-1, -HUGE, 8, HUGE)):
            sheet = short_told(ROW, first)
            for key, moment in product(("ada", "Ada", None), (5, -1, LAST + 1)):
                for ask in self.asks(sheet, key, moment, knowing):
                    self.check_refused(NoKnowing, ask)

    def test_names_and_moments_from_the_first_one_on(self):
        for first in (0, 4, 7):
            sheet = short_told(ROW, first)
            for name, moment in product(("Ada", "", None, 5), (5, -1, LAST + 1)):
                self.check_refused(NoName, lambda: sheet.worth_at(name, moment, first))
                self.check_refused(NoName, lambda: sheet.line_at(name, first))
                self.check_refused(NoName, lambda: who(sheet, name, first))
                self.check_refused(NoName, lambda: when(sheet, name, name, 7))
                self.check_refused(NoName, lambda: story(sheet, name, moment))
            for moment in NO_MOMENTS:
                self.check_refused(NoStretch, lambda: sheet.worth_at("ada", moment, first))
                self.check_refused(NoStretch, lambda: all_at(sheet, moment, 7))
                self.check_refused(NoStretch, lambda: story(sheet, "ada", moment))

    def test_of_a_joining_and_of_changes_the_first_tells_which(self):
        sheet, plain = short_told(ROW, 4), sheet_told(Sheet, ROW)
        for join, forgotten, none in product((by_key, by_worth), (0, 3), (-1, 8)):
            self.check_refused(Forgotten, lambda: join(sheet, forgotten, sheet, none))
            self.check_refused(NoKnowing, lambda: join(sheet, none, sheet, forgotten))
            self.check_refused(Forgotten, lambda: join(sheet, forgotten, plain, none))
            self.check_refused(NoKnowing, lambda: join(plain, none, sheet, forgotten))
            self.check_refused(Forgotten, lambda: join(sheet, forgotten, plain, 7))
            self.check_refused(Forgotten, lambda: join(plain, 0, sheet, forgotten))
            self.check_refused(Forgotten, lambda: join(sheet, 4, sheet, forgotten))
            self.check_refused(NoKnowing, lambda: join(sheet, 7, sheet, none))
        for forgotten, none in product((0, 3), (-1, 8)):
            self.check_refused(Forgotten, lambda: changes(sheet, forgotten, none))
            self.check_refused(NoKnowing, lambda: changes(sheet, none, forgotten))
            self.check_refused(Forgotten, lambda: changes(sheet, forgotten, 4))
            self.check_refused(Forgotten, lambda: changes(sheet, 4, forgotten))
            self.check_refused(NoKnowing, lambda: changes(sheet, 4, none))

    def test_tellings(self):
        sheet = short_told(ROW, 4)
        for name in NO_NAMES:
            for telling in (("put", name, "red", 5, 5), ("put", "ada", name, 0, 9), ("clear", name, 0, None)):
                self.check_unchanged(sheet, lambda: self.check_refused(NoName, lambda: sheet.tell(telling)))
        for begin, end in NO_STRETCHES:
            telling = ("put", "ada", "green", begin, end)
            self.check_unchanged(sheet, lambda: self.check_refused(NoStretch, lambda: sheet.tell(telling)))


class LaterAnswers(Forgets):
    def test_stay(self):
        plain = sheet_told(Sheet, ROW)
        for first in range(len(ROW) + 1):
            self.assertEqual(answers(short_told(ROW, first), first), answers(plain, first))

    def test_stories_go_from_there_on(self):
        sheet = short_told(ROW, 4)
        self.assertEqual(story(sheet, "ada", 22), [(4, 5, "blue"), (5, None, "red")])
        self.assertEqual(story(sheet, "ada", 27), [(4, None, "blue")])
        self.assertEqual(story(sheet, "ada", 11), [(4, 7, "red")])
        self.assertEqual(story(sheet, "bob", 3), [])
        self.assertEqual(story(sheet, "bob", 5), [(6, None, "blue")])
        self.assertEqual(story(short_told(ROW, 7), "ada", 11), [])

    def test_with_a_plain_sheet_in_a_joining(self):
        sheet, plain = short_told(ROW, 4), sheet_told(Sheet, ROW)
        for join, knowing, other in product((by_key, by_worth), range(4, 8), range(8)):
            self.assertEqual(join(sheet, knowing, plain, other), join(plain, knowing, plain, other))
            self.assertEqual(join(plain, other, sheet, knowing), join(plain, other, plain, knowing))

    def test_telling_goes_on(self):
        for first in range(len(ROW) + 1):
            sheet = sheet_told(Short, ROW[:first])
            sheet.forget(first)
            for number in range(first, len(ROW)):
                self.assertEqual(sheet.tell(ROW[number]), number + 1)
                self.assertEqual((sheet.first(), sheet.knowings()), (first, number + 1))
            self.assertEqual(sheet.tiles(), tiles_left(TILES, first))
            self.assertEqual(view(sheet), view(short_told(ROW, first)))

    def test_a_forgotten_key_told_again(self):
        row = [("put", "ada", "red", 0, 5), ("clear", "ada", 0, None), ("put", "bob", "red", 0, 5)]
        sheet = short_told(row, 3)
        self.assertEqual((sheet.line_at("ada", 3), sheet.keys_at(3)), ([], ["bob"]))
        self.assertEqual(sheet.tell(("put", "ada", "blue", 3, None)), 4)
        self.assertEqual(sheet.tiles(), [("ada", "blue", 3, None, 4, None), ("bob", "red", 0, 5, 3, None)])
        self.assertEqual((sheet.keys_at(4), sheet.keys_at(3)), (["ada", "bob"], ["bob"]))

    def test_a_telling_that_changes_no_line_changes_no_tile(self):
        sheet = short_told(ROW, 4)
        before = sheet.tiles()
        for telling in (("put", "ada", "blue", 26, 28), ("clear", "bob", 0, 5), ("clear", "never", 0, None)):
            sheet.tell(telling)
            self.assertEqual((sheet.tiles(), tiles_of(sheet)), (before, before))

    def test_no_tile_that_no_knowing_shows(self):
        for row in long_rows(4, 20, 5):
            for first in range(len(row) + 1):
                sheet = short_told(row, first)
                for key, worth, begin, end, since, until in sheet.tiles():
                    shown = [knowing for knowing in range(first, len(row) + 1)
                             if (begin, end, worth) in sheet.line_at(key, knowing) and has(since, until, knowing)]
                    self.assertEqual((bool(shown), since >= first), (True, True))

    def test_all_short_rows(self):
        for row in product(tellings_of("x", 2), repeat=3):
            plain = sheet_told(Sheet, row)
            for first in range(4):
                sheet = sheet_told(Short, row)
                wanted = tiles_read(row, 3, first)
                self.check_forgets(sheet, first, len(tiles_read(row, 3)) - len(wanted), wanted)
                for knowing in range(first, 4):
                    self.assertEqual(sheet.line_at("x", knowing), plain.line_at("x", knowing))

    def test_forgetting_between_long_rows(self):
        chance = Random(7)
        for row in long_rows(5, 16, 5):
            plain, sheet, first = Sheet(), Short(), 0
            for number, telling in enumerate(row):
                self.assertEqual(sheet.tell(telling), plain.tell(telling))
                known = row[:number + 1]
                if chance.random() < 0.3:
                    knowing = chance.randrange(number + 2)
                    first = max(first, knowing)
                    before = len(sheet.tiles())
                    self.assertEqual(sheet.forget(knowing), before - len(tiles_read(known, 6, first)))
                self.assertEqual(sheet.first(), first)
                self.assertEqual(sheet.tiles(), tiles_read(known, 6, first))
                self.assertEqual(tiles_of(sheet), tiles_read(known, 6, first))
            keys, moments = ("x", "y", "z"), tuple(range(6)) + FAR
            self.assertEqual(answers(sheet, first, keys, moments), answers(plain, first, keys, moments))
            for key, moment in product(keys, moments):
                self.assertEqual(story(sheet, key, moment), story_read(row, key, moment, first))
            self.assertGreater(first, 0)


class AskersOwn(Forgets):
    def test_what_the_asker_does_changes_nothing(self):
        sheet = short_told(ROW, 4)
        for call in (
            sheet.tiles, lambda: tiles_of(sheet), lambda: sheet.line_at("ada", 4), lambda: sheet.keys_at(7),
            lambda: story(sheet, "ada", 22), lambda: all_at(sheet, 22, 5), lambda: when(sheet, "ada", "red", 5),
            lambda: who(sheet, "red", 4), lambda: by_key(sheet, 4, sheet, 7), lambda: by_worth(sheet, 4, sheet, 7),
            lambda: changes(sheet, 4, 7),
        ):
            self.check_own(call)
        self.check_own_table(lambda: table_at(sheet, 7))
        self.assertEqual(view(sheet), view(short_told(ROW, 4)))

    def test_told_earlier_stay(self):
        sheet = short_told()
        told = [(sheet.tiles(), tiles_of(sheet), sheet.line_at("ada", 3), table_at(sheet, 2), changes(sheet, 0, 7))]
        wanted = [(sheet.tiles(), tiles_of(sheet), sheet.line_at("ada", 3), table_at(sheet, 2), changes(sheet, 0, 7))]
        sheet.forget(5)
        told.append((sheet.tiles(), tiles_of(sheet), story(sheet, "ada", 22)))
        wanted.append((tiles_left(TILES, 5), tiles_left(TILES, 5), [(5, None, "red")]))
        sheet.tell(("clear", "ada", 0, None))
        sheet.forget(8)
        self.assertEqual(told, wanted)

    def test_what_the_asker_does_comes_into_no_later_forgetting(self):
        sheet = short_told()
        sheet.tiles().clear()
        sheet.tiles().append(("ada", "bad", 0, 1, 0, None))
        self.check_forgets(sheet, 4, 2, tiles_left(TILES, 4))
        sheet.tiles().clear()
        self.check_forgets(sheet, 7, 3, tiles_left(TILES, 7))


class Sizes(Case):
    def test_a_thousand_tellings(self):
        row = [("put", "ada", "ab"[number % 2], 7 * number % 1000, 7 * number % 1000 + 9) for number in range(1000)]
        sheet, plain = sheet_told(Short, row), sheet_told(Tiled, row)
        for knowing in (100, 500, 900, 1000):
            before = len(sheet.tiles())
            wanted = tiles_left(plain.tiles(), knowing)
            self.assertEqual(sheet.forget(knowing), before - len(wanted))
            # assertEqual would be long about telling where two such lists differ.
            self.assertTrue(sheet.tiles() == wanted)
        self.assertTrue(sheet.line_at("ada", 1000) == plain.line_at("ada", 1000))


if __name__ == "__main__":
    unittest.main()
