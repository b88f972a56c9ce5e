import unittest
from itertools import product

from by_moments import (
    Case, FAR, From, LAST, has, line_read, long_rows, sheet_told, tellings_of, tiles_read, worth_read,
)
from twotimes.errors import NoKnowing, NoName, NoStretch
from twotimes.sheets import Sheet
from twotimes.tiles import Tiled, tiles_of

ROW = [
    ("put", "bob", "red", 10, 20),
    ("put", "ada", "red", 30, None),
    ("put", "ada", "red", 10, 20),
    ("put", "bob", "blue", 15, 17),
    ("clear", "ada", 30, None),
    ("put", "bob", "red", 15, 17),
    ("put", "ada", "blue", LAST, None),
    ("put", "ada", "red", 30, None),
]
TILES = [
    ("ada", "red", 30, None, 2, 5),
    ("ada", "red", 10, 20, 3, None),
    ("ada", "blue", LAST, None, 7, 8),
    ("ada", "red", 30, None, 8, None),
    ("bob", "red", 10, 20, 1, 4),
    ("bob", "red", 10, 15, 4, 6),
    ("bob", "blue", 15, 17, 4, 6),
    ("bob", "red", 17, 20, 4, 6),
    ("bob", "red", 10, 20, 6, None),
]


class Tiles(unittest.TestCase):
    def check(self, tellings, wanted):
        tiled = sheet_told(Tiled, tellings)
        self.assertEqual(tiled.tiles(), wanted)
        self.assertEqual(tiles_of(tiled), wanted)
        self.assertEqual(tiles_of(sheet_told(Sheet, tellings)), wanted)

    def test_none(self):
        self.check([], [])
        self.check([("clear", "ada", 0, None), ("clear", "bob", 3, 5)], [])

    def test_a_row(self):
        self.check(ROW, TILES)

    def test_one_that_stands_and_one_that_ends(self):
        self.check([("put", "ada", "a", 3, 5)], [("ada", "a", 3, 5, 1, None)])
        tellings = [("put", "ada", "a", 3, 5), ("put", "bob", "b", 0, 1), ("clear", "ada", 3, 5)]
        self.check(tellings, [("ada", "a", 3, 5, 1, 3), ("bob", "b", 0, 1, 2, None)])

    def test_a_run_that_comes_back(self):
        tellings = [("put", "ada", "a", 3, 5), ("clear", "ada", 3, 5), ("put", "bob", "b", 0, 1), ("put", "ada", "a", 3, 5)]
        wanted = [("ada", "a", 3, 5, 1, 2), ("ada", "a", 3, 5, 4, None), ("bob", "b", 0, 1, 3, None)]
        self.check(tellings, wanted)
        self.check(tellings + [("clear", "ada", 0, 9)], [wanted[0], ("ada", "a", 3, 5, 4, 5), wanted[2]])

    def test_a_run_that_comes_back_at_once_with_another_worth(self):
        tellings = [("put", "ada", "a", 3, 5), ("put", "ada", "b", 3, 5), ("put", "ada", "a", 3, 5)]
        self.check(tellings, [("ada", "a", 3, 5, 1, 2), ("ada", "b", 3, 5, 2, 3), ("ada", "a", 3, 5, 3, None)])

    def test_a_run_that_grows(self):
        tellings = [("put", "ada", "a", 3, 5), ("put", "ada", "a", 5, 8), ("put", "ada", "a", 0, 4)]
        self.check(tellings, [("ada", "a", 3, 5, 1, 2), ("ada", "a", 3, 8, 2, 3), ("ada", "a", 0, 8, 3, None)])

    def test_a_run_that_shrinks(self):
        tellings = [("put", "ada", "a", 3, 9), ("clear", "ada", 8, None), ("clear", "ada", 0, 4)]
        self.check(tellings, [("ada", "a", 3, 9, 1, 2), ("ada", "a", 3, 8, 2, 3), ("ada", "a", 4, 8, 3, None)])

    def test_runs_that_are_joined_and_parted(self):
        tellings = [("put", "ada", "a", 3, 5), ("put", "ada", "a", 7, 9), ("put", "ada", "a", 5, 7), ("clear", "ada", 5, 7)]
        wanted = [
            ("ada", "a", 3, 5, 1, 3), ("ada", "a", 7, 9, 2, 3), ("ada", "a", 3, 9, 3, 4),
            ("ada", "a", 3, 5, 4, None), ("ada", "a", 7, 9, 4, None),
        ]
        self.check(tellings, wanted)

    def test_other_runs_of_the_key_stand_on(self):
        tellings = [("put", "ada", "a", 0, 2), ("put", "ada", "a", 8, None), ("put", "ada", "b", 4, 5), ("clear", "ada", 4, 5)]
        self.check(tellings, [("ada", "a", 0, 2, 1, None), ("ada", "a", 8, None, 2, None), ("ada", "b", 4, 5, 3, 4)])

    def test_without_end_is_another_run_than_to_the_last_moment(self):
        tellings = [("put", "ada", "a", 0, None), ("clear", "ada", LAST, None), ("put", "ada", "a", LAST, None)]
        wanted = [("ada", "a", 0, None, 1, 2), ("ada", "a", 0, LAST, 2, 3), ("ada", "a", 0, None, 3, None)]
        self.check(tellings, wanted)

    def test_order_by_key_then_since_then_begin(self):
        tellings = [
            ("put", "c", "a", 0, 9), ("put", "b", "z", 5, 6), ("put", "b", "a", 1, 2), ("put", "bb", "a", 0, 1),
            ("put", "c", "b", 4, 5), ("put", "a", "a", 3, None),
        ]
        wanted = [
            ("a", "a", 3, None, 6, None), ("b", "z", 5, 6, 2, None), ("b", "a", 1, 2, 3, None),
            ("bb", "a", 0, 1, 4, None), ("c", "a", 0, 9, 1, 5), ("c", "a", 0, 4, 5, None), ("c", "b", 4, 5, 5, None),
            ("c", "a", 5, 9, 5, None),
        ]
        self.check(tellings, wanted)

    def test_from_a_later_first_knowing_on(self):
        for kind in (Sheet, Tiled):
            wanted = [tile[:4] + (max(tile[4], 5), tile[5]) for tile in TILES if tile[5] is None or tile[5] > 5]
            wanted = sorted(wanted, key=lambda tile: (tile[0], tile[4], tile[2]))
            self.assertEqual(tiles_of(From(sheet_told(kind, ROW), 5)), wanted)
            self.assertEqual(tiles_of(From(sheet_told(kind, ROW), 0)), TILES)

    def test_by_each_knowing_and_moment(self):
        for row in product(tellings_of("x", 3), repeat=3):
            self.check(row, tiles_read(row, 4))
        for row in long_rows(8, 30, 9):
            self.check(row, tiles_read(row, 10))


class JustOneTile(unittest.TestCase):
    def check(self, row, length):
        tiles = sheet_told(Tiled, row).tiles()
        for knowing, key, moment in product(range(len(row) + 1), ("x", "y", "z"), tuple(range(length)) + FAR):
            mine = [tile for tile in tiles if tile[0] == key and has(tile[2], tile[3], moment)]
            worths = [tile[1] for tile in mine if has(tile[4], tile[5], knowing)]
            worth = worth_read(row[:knowing], key, moment)
            self.assertEqual(worths, [] if worth is None else [worth], (row, knowing, key, moment))

    def test_just_one(self):
        for row in long_rows(8, 25, 7):
            self.check(row, 9)

    def test_short_rows(self):
        for row in product(tellings_of("x", 2), repeat=3):
            self.check(row, 4)


class LinesAlone(unittest.TestCase):
    def test_the_same_lines_by_other_tellings(self):
        one = [
            ("put", "ada", "a", 0, 9), ("put", "ada", "b", 3, 5), ("clear", "ada", 0, 3), ("clear", "cy", 0, None),
            ("put", "ada", "a", 9, 20), ("put", "bob", "a", 5, None),
        ]
        other = [
            ("put", "ada", "a", 0, 9), ("put", "ada", "b", 3, 5), ("clear", "ada", 0, 3), ("put", "ada", "b", 3, 4),
            ("put", "ada", "a", 5, 20), ("put", "bob", "a", 5, None),
        ]
        for kind, other_kind in product((Sheet, Tiled), repeat=2):
            sheet, second = sheet_told(kind, one), sheet_told(other_kind, other)
            for knowing, key in product(range(7), ("ada", "bob", "cy")):
                self.assertEqual(sheet.line_at(key, knowing), second.line_at(key, knowing))
            self.assertEqual(tiles_of(sheet), tiles_of(second))
        self.assertEqual(sheet_told(Tiled, one).tiles(), sheet_told(Tiled, other).tiles())

    def test_rows_with_the_same_lines(self):
        found = {}
        for row in product(tellings_of("x", 3), repeat=3):
            lines = tuple(tuple(line_read(row[:knowing], "x", 4)) for knowing in range(4))
            tiles = sheet_told(Tiled, row).tiles()
            self.assertEqual(found.setdefault(lines, tiles), tiles, row)
        self.assertLess(len(found), 18 ** 3)

    def test_tellings_that_change_no_line(self):
        tiled = sheet_told(Tiled, ROW)
        idle = [
            ("put", "ada", "red", 10, 20), ("put", "ada", "red", 12, 15), ("put", "ada", "red", LAST, None),
            ("clear", "ada", 0, 10), ("clear", "ada", 20, 30), ("clear", "never", 0, None), ("clear", "bob", 20, None),
        ]
        for telling in idle:
            self.assertEqual(tiled.tell(telling), tiled.knowings())
            self.assertEqual(tiled.tiles(), TILES)
            self.assertEqual(tiles_of(tiled), TILES)
        self.assertEqual(tiled.knowings(), len(ROW) + len(idle))
        tiled.tell(("clear", "ada", 10, 11))
        self.assertNotEqual(tiled.tiles(), TILES)


class AnswersLikeASheet(unittest.TestCase):
    def test_is_a_sheet(self):
        self.assertIsInstance(Tiled(), Sheet)
        self.assertTrue(issubclass(Tiled, Sheet))

    def test_same_answers(self):
        for row in long_rows(6, 25, 8) + [ROW]:
            sheet, tiled = Sheet(), Tiled()
            for telling in row:
                self.assertEqual(tiled.tell(telling), sheet.tell(telling))
                self.assertEqual((tiled.knowings(), tiled.first()), (sheet.knowings(), sheet.first()))
                self.assertEqual(tiles_of(tiled), tiles_of(sheet))
                self.assertEqual(tiled.tiles(), tiles_of(sheet))
            for knowing in range(len(row) + 1):
                self.assertEqual(tiled.keys_at(knowing), sheet.keys_at(knowing))
                for key in ("x", "y", "z", "ada", "bob", "never"):
                    self.assertEqual(tiled.line_at(key, knowing), sheet.line_at(key, knowing))
                    for moment in tuple(range(40)) + FAR:
                        self.assertEqual(tiled.worth_at(key, moment, knowing), sheet.worth_at(key, moment, knowing))

    def test_answers_by_its_tiles(self):
        tiled = sheet_told(Tiled, ROW)
        for knowing, key in product(range(len(ROW) + 1), ("ada", "bob")):
            mine = [tile for tile in tiled.tiles() if tile[0] == key and has(tile[4], tile[5], knowing)]
            runs = sorted((tile[2:4] + tile[1:2] for tile in mine), key=lambda run: run[0])
            self.assertEqual(tiled.line_at(key, knowing), runs)

    def test_refuses_as_a_sheet_does(self):
        calls = [
            (NoName, lambda sheet: sheet.tell(("put", "Ada", "red", 5, 5))),
            (NoName, lambda sheet: sheet.tell(("put", "ada", "", 5, 9))),
            (NoName, lambda sheet: sheet.tell(("clear", "abcdefghi", 0, True))),
            (NoStretch, lambda sheet: sheet.tell(("put", "ada", "red", 5, 5))),
            (NoStretch, lambda sheet: sheet.tell(("clear", "ada", -1, None))),
            (NoKnowing, lambda sheet: sheet.worth_at("Ada", -1, 9)),
            (NoKnowing, lambda sheet: sheet.line_at("Ada", -1)),
            (NoKnowing, lambda sheet: sheet.keys_at(9)),
            (NoName, lambda sheet: sheet.worth_at("Ada", -1, 8)),
            (NoName, lambda sheet: sheet.line_at("", 0)),
            (NoStretch, lambda sheet: sheet.worth_at("ada", -1, 8)),
            (NoStretch, lambda sheet: sheet.worth_at("never", LAST + 1, 0)),
        ]
        for kind, (refusal, call) in product((Sheet, Tiled), calls):
            sheet = sheet_told(kind, ROW)
            with self.assertRaises(refusal) as caught:
                call(sheet)
            self.assertIs(type(caught.exception), refusal)
            self.assertEqual((sheet.knowings(), tiles_of(sheet)), (len(ROW), TILES))
            if kind is Tiled:
                self.assertEqual(sheet.tiles(), TILES)


class AskersOwn(Case):
    def calls(self):
        sheet, tiled = sheet_told(Sheet, ROW), sheet_told(Tiled, ROW)
        return [tiled.tiles, lambda: tiles_of(tiled), lambda: tiles_of(sheet)]

    def test_what_the_asker_does_changes_nothing(self):
        for call in self.calls():
            self.check_own(call)
            call().append(("ada", "bad", 0, 1, 0, None))
            self.assertEqual(call(), TILES)

    def test_told_earlier_stay_and_come_into_no_later_telling(self):
        tiled = Tiled()
        told = []
        for knowing, telling in enumerate(ROW):
            tiled.tiles().clear()
            tiled.tiles().append(("ada", "bad", 0, 1, 0, None))
            tiles_of(tiled).clear()
            told.append((tiled.tiles(), tiles_of(tiled), tiles_read(ROW[:knowing], 40)))
            tiled.tell(telling)
        # The reading goes through all moments, so the row is left off ahead of the telling at the last one.
        for tiles, again, wanted in told[:7]:
            self.assertEqual(tiles, wanted)
            self.assertEqual(again, wanted)
        self.assertEqual(tiled.tiles(), TILES)

    def test_asking_for_tiles_changes_no_answer(self):
        for kind in (Sheet, Tiled):
            sheet = sheet_told(kind, ROW)
            before = [(sheet.keys_at(knowing), sheet.line_at("ada", knowing)) for knowing in range(len(ROW) + 1)]
            tiles_of(sheet).clear()
            after = [(sheet.keys_at(knowing), sheet.line_at("ada", knowing)) for knowing in range(len(ROW) + 1)]
            self.assertEqual((after, sheet.knowings(), sheet.first()), (before, len(ROW), 0))


class Sizes(unittest.TestCase):
    def test_a_thousand_tellings(self):
        row = [("put", "ada", "ab"[number % 2], 7 * number % 1000, 7 * number % 1000 + 9) for number in range(1000)]
        tiled = sheet_told(Tiled, row)
        self.assertEqual(tiled.tiles(), tiles_of(sheet_told(Sheet, row)))


if __name__ == "__main__":
    unittest.main()
