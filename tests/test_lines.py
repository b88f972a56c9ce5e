import unittest

from by_moments import has, line_of, moments, rows, stretches
from twotimes.lines import cut_to, laid_together, put_on, worth_in

LAST = 10 ** 12
LINE = [(2, 5, "a"), (5, 7, "b"), (9, 12, "a")]
ENDLESS = [(2, 5, "a"), (8, None, "b")]


def calls_on(line):
    return [
        lambda: worth_in(line, 3),
        lambda: put_on(line, 3, 10, "c"),
        lambda: put_on(line, 3, 10, None),
        lambda: put_on(line, 2, 5, "a"),
        lambda: put_on(line, 0, None, None),
        lambda: put_on(line, 300, 301, None),
        lambda: cut_to(line, 3, 10),
        lambda: cut_to(line, 0, None),
        lambda: laid_together(line, []),
        lambda: laid_together([], line),
        lambda: laid_together(line, line),
    ]


class WorthIn(unittest.TestCase):
    def test_empty(self):
        for moment in (0, 5, LAST):
            self.assertIsNone(worth_in([], moment))

    def test_ahead_at_within_at_the_end_and_behind(self):
        told = [worth_in(LINE, moment) for moment in range(14)]
        self.assertEqual(told, [None, None, "a", "a", "a", "b", "b", None, None, "a", "a", "a", None, None])
        self.assertIsNone(worth_in(LINE, LAST))

    def test_without_end(self):
        self.assertIsNone(worth_in(ENDLESS, 7))
        for moment in (8, 9, 10 ** 6, LAST):
            self.assertEqual(worth_in(ENDLESS, moment), "b")

    def test_of_all_moments(self):
        for moment in (0, 1, LAST):
            self.assertEqual(worth_in([(0, None, "a")], moment), "a")

    def test_last_moment(self):
        self.assertIsNone(worth_in([(0, LAST, "a")], LAST))
        self.assertEqual(worth_in([(0, LAST, "a")], LAST - 1), "a")
        self.assertEqual(worth_in([(0, LAST, "a"), (LAST, None, "b")], LAST), "b")

    def test_moment_by_moment(self):
        for row in rows(5):
            for moment in moments(7):
                self.assertEqual(worth_in(line_of(row), moment), row[min(moment, 4)])


class PutOn(unittest.TestCase):
    def test_on_nothing(self):
        self.assertEqual(put_on([], 3, 5, "a"), [(3, 5, "a")])
        self.assertEqual(put_on([], 0, None, "a"), [(0, None, "a")])
        self.assertEqual(put_on([], 3, 5, None), [])
        self.assertEqual(put_on([], 0, None, None), [])

    def test_ahead_between_and_behind(self):
        self.assertEqual(put_on(LINE, 0, 1, "c"), [(0, 1, "c")] + LINE)
        self.assertEqual(put_on(LINE, 0, 2, "c"), [(0, 2, "c")] + LINE)
        self.assertEqual(put_on(LINE, 7, 9, "c"), [(2, 5, "a"), (5, 7, "b"), (7, 9, "c"), (9, 12, "a")])
        self.assertEqual(put_on(LINE, 12, 13, "c"), LINE + [(12, 13, "c")])
        self.assertEqual(put_on(LINE, 20, None, "c"), LINE + [(20, None, "c")])

    def test_over_a_part(self):
        self.assertEqual(put_on([(2, 8, "a")], 4, 6, "c"), [(2, 4, "a"), (4, 6, "c"), (6, 8, "a")])
        self.assertEqual(put_on([(2, 8, "a")], 2, 6, "c"), [(2, 6, "c"), (6, 8, "a")])
        self.assertEqual(put_on([(2, 8, "a")], 4, 8, "c"), [(2, 4, "a"), (4, 8, "c")])
        self.assertEqual(put_on([(2, 8, "a")], 0, 3, "c"), [(0, 3, "c"), (3, 8, "a")])
        self.assertEqual(put_on([(2, 8, "a")], 7, 9, "c"), [(2, 7, "a"), (7, 9, "c")])

    def test_over_several_and_all(self):
        self.assertEqual(put_on(LINE, 3, 10, "c"), [(2, 3, "a"), (3, 10, "c"), (10, 12, "a")])
        self.assertEqual(put_on(LINE, 2, 12, "c"), [(2, 12, "c")])
        self.assertEqual(put_on(LINE, 0, 300, "c"), [(0, 300, "c")])
        self.assertEqual(put_on(LINE, 0, None, "c"), [(0, None, "c")])
        self.assertEqual(put_on(LINE, 6, None, "c"), [(2, 5, "a"), (5, 6, "b"), (6, None, "c")])

    def test_none(self):
        self.assertEqual(put_on(LINE, 3, 10, None), [(2, 3, "a"), (10, 12, "a")])
        self.assertEqual(put_on(LINE, 3, 4, None), [(2, 3, "a"), (4, 5, "a"), (5, 7, "b"), (9, 12, "a")])
        self.assertEqual(put_on(LINE, 5, 7, None), [(2, 5, "a"), (9, 12, "a")])
        self.assertEqual(put_on(LINE, 7, 9, None), LINE)
        self.assertEqual(put_on(LINE, 0, 2, None), LINE)
        self.assertEqual(put_on(LINE, 12, None, None), LINE)
        self.assertEqual(put_on(LINE, 6, None, None), [(2, 5, "a"), (5, 6, "b")])
        self.assertEqual(put_on(LINE, 0, None, None), [])

    def test_joined_with_neighbours(self):
        self.assertEqual(put_on([(2, 5, "a")], 5, 8, "a"), [(2, 8, "a")])
        self.assertEqual(put_on([(2, 5, "a")], 0, 2, "a"), [(0, 5, "a")])
        self.assertEqual(put_on([(2, 5, "a"), (7, 9, "a")], 5, 7, "a"), [(2, 9, "a")])
        self.assertEqual(put_on(LINE, 5, 9, "a"), [(2, 12, "a")])
        self.assertEqual(put_on(LINE, 4, 10, "a"), [(2, 12, "a")])
        self.assertEqual(put_on(LINE, 4, 5, "b"), [(2, 4, "a"), (4, 7, "b"), (9, 12, "a")])
        self.assertEqual(put_on([(2, 5, "a")], 6, 8, "a"), [(2, 5, "a"), (6, 8, "a")])

    def test_the_worth_that_is_there(self):
        self.assertEqual(put_on(LINE, 2, 5, "a"), LINE)
        self.assertEqual(put_on(LINE, 3, 4, "a"), LINE)
        self.assertEqual(put_on(ENDLESS, 10, 12, "b"), ENDLESS)
        self.assertEqual(put_on(ENDLESS, 10, None, "b"), ENDLESS)

    def test_on_lines_without_end(self):
        self.assertEqual(put_on(ENDLESS, 10, 12, "c"), [(2, 5, "a"), (8, 10, "b"), (10, 12, "c"), (12, None, "b")])
        self.assertEqual(put_on(ENDLESS, 10, 12, None), [(2, 5, "a"), (8, 10, "b"), (12, None, "b")])
        self.assertEqual(put_on(ENDLESS, 10, None, "c"), [(2, 5, "a"), (8, 10, "b"), (10, None, "c")])
        self.assertEqual(put_on(ENDLESS, 10, None, None), [(2, 5, "a"), (8, 10, "b")])
        self.assertEqual(put_on(ENDLESS, 5, 8, "b"), [(2, 5, "a"), (5, None, "b")])
        self.assertEqual(put_on([(2, 5, "a")], 5, None, "a"), [(2, None, "a")])

    def test_last_moment(self):
        self.assertEqual(put_on([(0, None, "a")], LAST, None, "b"), [(0, LAST, "a"), (LAST, None, "b")])
        self.assertEqual(put_on([(0, None, "a")], 0, LAST, None), [(LAST, None, "a")])

    def test_moment_by_moment(self):
        for row in rows(5):
            line = line_of(row)
            for begin, end in stretches(7):
                for worth in (None, "a", "c"):
                    long_row = [row[min(moment, 4)] for moment in range(7)]
                    wanted = [worth if has(begin, end, moment) else long_row[moment] for moment in range(7)]
                    self.assertEqual(put_on(line, begin, end, worth), line_of(wanted), (line, begin, end, worth))


class CutTo(unittest.TestCase):
    def test_at_bounds(self):
        self.assertEqual(cut_to(LINE, 2, 5), [(2, 5, "a")])
        self.assertEqual(cut_to(LINE, 5, 12), [(5, 7, "b"), (9, 12, "a")])
        self.assertEqual(cut_to(LINE, 2, 12), LINE)

    def test_within(self):
        self.assertEqual(cut_to(LINE, 3, 4), [(3, 4, "a")])
        self.assertEqual(cut_to(LINE, 3, 10), [(3, 5, "a"), (5, 7, "b"), (9, 10, "a")])
        self.assertEqual(cut_to(LINE, 6, None), [(6, 7, "b"), (9, 12, "a")])

    def test_to_where_nothing_is(self):
        for begin, end in ((0, 1), (0, 2), (7, 9), (8, 9), (12, 13), (12, None), (LAST, None)):
            self.assertEqual(cut_to(LINE, begin, end), [])
        self.assertEqual(cut_to([], 0, None), [])
        self.assertEqual(cut_to([], 3, 5), [])

    def test_to_all(self):
        self.assertEqual(cut_to(LINE, 0, None), LINE)
        self.assertEqual(cut_to(ENDLESS, 0, None), ENDLESS)

    def test_lines_without_end(self):
        self.assertEqual(cut_to(ENDLESS, 10, 12), [(10, 12, "b")])
        self.assertEqual(cut_to(ENDLESS, 10, None), [(10, None, "b")])
        self.assertEqual(cut_to(ENDLESS, 3, 9), [(3, 5, "a"), (8, 9, "b")])
        self.assertEqual(cut_to(ENDLESS, LAST, None), [(LAST, None, "b")])

    def test_moment_by_moment(self):
        for row in rows(5):
            line = line_of(row)
            for begin, end in stretches(7):
                long_row = [row[min(moment, 4)] for moment in range(7)]
                wanted = [long_row[moment] if has(begin, end, moment) else None for moment in range(7)]
                self.assertEqual(cut_to(line, begin, end), line_of(wanted), (line, begin, end))


class LaidTogether(unittest.TestCase):
    def check(self, line, other, told):
        self.assertEqual(laid_together(line, other), told)
        exchanged = [(begin, end, worth, other_worth) for begin, end, other_worth, worth in told]
        self.assertEqual(laid_together(other, line), exchanged)

    def test_empty(self):
        self.check([], [], [])
        self.check(LINE, [], [(2, 5, "a", None), (5, 7, "b", None), (9, 12, "a", None)])
        self.check(ENDLESS, [], [(2, 5, "a", None), (8, None, "b", None)])

    def test_alike(self):
        self.check(LINE, LINE, [(2, 5, "a", "a"), (5, 7, "b", "b"), (9, 12, "a", "a")])
        self.check(ENDLESS, list(ENDLESS), [(2, 5, "a", "a"), (8, None, "b", "b")])

    def test_touching(self):
        self.check([(2, 5, "a")], [(5, 8, "a")], [(2, 5, "a", None), (5, 8, None, "a")])
        self.check([(2, 5, "a"), (8, 9, "b")], [(5, 8, "a")], [(2, 5, "a", None), (5, 8, None, "a"), (8, 9, "b", None)])

    def test_apart(self):
        self.check([(2, 5, "a")], [(6, 8, "a")], [(2, 5, "a", None), (6, 8, None, "a")])

    def test_overlapping(self):
        self.check([(2, 5, "a")], [(4, 8, "b")], [(2, 4, "a", None), (4, 5, "a", "b"), (5, 8, None, "b")])
        self.check([(2, 9, "a")], [(4, 6, "b")], [(2, 4, "a", None), (4, 6, "a", "b"), (6, 9, "a", None)])
        self.check([(2, 9, "a")], [(2, 6, "b"), (6, 9, "a")], [(2, 6, "a", "b"), (6, 9, "a", "a")])

    def test_without_end(self):
        self.check([(2, None, "a")], [(4, None, "b")], [(2, 4, "a", None), (4, None, "a", "b")])
        self.check([(2, None, "a")], [(4, 6, "b")], [(2, 4, "a", None), (4, 6, "a", "b"), (6, None, "a", None)])
        self.check([(2, None, "a")], [(0, 2, "b")], [(0, 2, None, "b"), (2, None, "a", None)])
        self.check([(0, None, "a")], [(0, None, "b")], [(0, None, "a", "b")])

    def test_neighbours_alike_are_joined(self):
        # A line by [5] has no such neighbours; laying together joins them all the same.
        self.check([(2, 5, "a"), (5, 8, "a")], [], [(2, 8, "a", None)])
        self.check([(2, 8, "a")], [(2, 5, "b"), (5, 8, "b")], [(2, 8, "a", "b")])

    def test_neighbours_alike_in_one_worth_stay(self):
        self.check([(2, 8, "a")], [(2, 5, "b"), (5, 8, "c")], [(2, 5, "a", "b"), (5, 8, "a", "c")])

    def test_alike_but_apart_stay(self):
        told = [(2, 4, "a", "b"), (6, 8, "a", "b")]
        self.check([(2, 4, "a"), (6, 8, "a")], [(2, 4, "b"), (6, 8, "b")], told)

    def test_moment_by_moment(self):
        for row in rows(4):
            for other_row in rows(4):
                told = laid_together(line_of(row), line_of(other_row))
                pairs = [pair if pair != (None, None) else None for pair in zip(row, other_row)]
                wanted = [(begin, end) + pair for begin, end, pair in line_of(pairs)]
                self.assertEqual(told, wanted, (row, other_row))


class AskersOwn(unittest.TestCase):
    def test_nothing_handed_in_is_changed(self):
        for whole in ([], LINE, ENDLESS):
            line = list(whole)
            for call in calls_on(line):
                call()
                self.assertEqual(line, whole)

    def test_told_lists_are_new(self):
        for whole in ([], LINE, ENDLESS):
            line = list(whole)
            for call in calls_on(line)[1:]:
                told, again = call(), call()
                self.assertIsInstance(told, list)
                self.assertIsNot(told, line)
                self.assertIsNot(told, again)
                self.assertEqual(told, again)

    def test_told_tuples_are_new(self):
        for whole in (LINE, ENDLESS):
            line = list(whole)
            for call in calls_on(line)[1:]:
                told, again = call(), call()
                for piece in told:
                    self.assertIs(type(piece), tuple)
                    self.assertFalse(any(piece is other for other in line + again))

    def test_what_the_asker_does_changes_nothing_told_later(self):
        for whole in ([], LINE, ENDLESS):
            line = list(whole)
            for call in calls_on(line)[1:]:
                told = call()
                wanted = list(told)
                told.append((900, 901, "x"))
                told[0] = None
                self.assertEqual(line, whole)
                self.assertEqual(call(), wanted)

    def test_what_becomes_of_the_line_changes_nothing_told(self):
        for number in range(1, len(calls_on([]))):
            line = list(LINE)
            told = calls_on(line)[number]()
            wanted = list(told)
            line.clear()
            self.assertEqual(told, wanted)


class Sizes(unittest.TestCase):
    def test_three_hundred_stretches(self):
        line = [(moment * 3, moment * 3 + 2, "a") for moment in range(300)]
        other = [(moment * 3 + 1, moment * 3 + 3, "b") for moment in range(300)]
        self.assertEqual(len(laid_together(line, other)), 900)
        self.assertEqual(put_on(line, 0, 900, "a"), [(0, 900, "a")])
        self.assertEqual(cut_to(line, 450, 453), [(450, 452, "a")])
        self.assertEqual(worth_in(line, 898), "a")
        self.assertIsNone(worth_in(line, 899))


if __name__ == "__main__":
    unittest.main()
