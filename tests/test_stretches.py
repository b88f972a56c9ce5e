import unittest

from by_moments import FAR, has, stretches
from twotimes.stretches import common, is_moment, is_name, is_stretch

LAST = 10 ** 12
# None of these is a name, a moment, or a begin or end of a stretch (but None as an end).
STRANGE = (
    True, False, 1.0, 0.5, float("nan"), 1j, b"a", bytearray(b"a"), [], ["a"], [1], (), ("a",), (1, 2),
    {}, {"a": 1}, set(), frozenset(), object(), len, int, str, ValueError("a"), range(3), ...,
)


class Names(unittest.TestCase):
    def test_names(self):
        for thing in ("a", "z", "m", "ab", "zz", "aaaaaaaa", "abcdefgh", "stuvwxyz"):
            self.assertIs(is_name(thing), True, thing)

    def test_all_small_letters(self):
        for letter in "abcdefghijklmnopqrstuvwxyz":
            self.assertIs(is_name(letter), True, letter)

    def test_too_short_or_too_long(self):
        for thing in ("", "aaaaaaaaa", "abcdefghi", "a" * 1000):
            self.assertIs(is_name(thing), False, thing)

    def test_other_signs(self):
        for sign in [chr(code) for code in range(256)] + ["\u0101", "\u0430", "\uff41", "\u1d43", "\U0001d41a"]:
            if "a" <= sign <= "z":
                continue
            for thing in (sign, "ab" + sign, sign + "ab", "a" + sign + "b", "abcdefg" + sign):
                self.assertIs(is_name(thing), False, thing)

    def test_great_letters_figures_blanks_and_feeds(self):
        for thing in ("A", "Ab", "aB", "Z", "1", "a1", "0", " ", "a ", " a", "a b", "\n", "a\n", "\na", "a\nb", "-", "_"):
            self.assertIs(is_name(thing), False, thing)

    def test_no_texts(self):
        for thing in STRANGE + (None, 0, 1, -1, 10 ** 30, ["a", "b"]):
            self.assertIs(is_name(thing), False, thing)


class Moments(unittest.TestCase):
    def test_moments(self):
        for thing in (0, 1, 2, 300, 10 ** 6, LAST - 1, LAST):
            self.assertIs(is_moment(thing), True, thing)

    def test_beyond(self):
        for thing in (-1, -2, -LAST, LAST + 1, 10 ** 13, 10 ** 40, -10 ** 40):
            self.assertIs(is_moment(thing), False, thing)

    def test_truths_and_other_things(self):
        for thing in STRANGE + (None, "", "0", "1", "a"):
            self.assertIs(is_moment(thing), False, thing)


class Stretches(unittest.TestCase):
    def test_stretches(self):
        for begin, end in ((0, 1), (0, None), (5, 6), (5, LAST), (LAST - 1, LAST), (LAST, None), (0, LAST), (3, 300)):
            self.assertIs(is_stretch(begin, end), True, (begin, end))

    def test_end_at_or_below_begin(self):
        for begin, end in ((0, 0), (5, 5), (5, 4), (5, 0), (1, 0), (LAST, LAST), (LAST, 0), (LAST, LAST - 1)):
            self.assertIs(is_stretch(begin, end), False, (begin, end))

    def test_bounds_beyond(self):
        for begin, end in ((0, LAST + 1), (LAST, LAST + 1), (5, -1), (-1, 5), (-1, None), (-2, -1), (LAST + 1, None),
                           (LAST + 1, LAST + 2)):
            self.assertIs(is_stretch(begin, end), False, (begin, end))

    def test_truths(self):
        for begin, end in ((0, True), (False, 5), (False, True), (True, None), (True, 5), (0, False), (False, None)):
            self.assertIs(is_stretch(begin, end), False, (begin, end))

    def test_other_things(self):
        for thing in STRANGE + ("", "0", "a"):
            self.assertIs(is_stretch(thing, 5), False, thing)
            self.assertIs(is_stretch(thing, None), False, thing)
            self.assertIs(is_stretch(0, thing), False, thing)
            self.assertIs(is_stretch(thing, thing), False, thing)
        self.assertIs(is_stretch(None, None), False)
        self.assertIs(is_stretch(None, 5), False)


class Common(unittest.TestCase):
    def check(self, one, other, told):
        self.assertEqual(common(one, other), told)
        self.assertEqual(common(other, one), told)

    def test_overlapping(self):
        self.check((0, 5), (3, 9), (3, 5))
        self.check((0, 5), (4, 9), (4, 5))

    def test_touching(self):
        self.check((0, 5), (5, 9), None)
        self.check((0, 5), (5, None), None)

    def test_apart(self):
        self.check((0, 5), (6, 9), None)
        self.check((0, 5), (7, None), None)

    def test_within(self):
        self.check((0, 9), (3, 5), (3, 5))
        self.check((0, 9), (0, 5), (0, 5))
        self.check((0, 9), (5, 9), (5, 9))
        self.check((3, 5), (3, 5), (3, 5))

    def test_without_end(self):
        self.check((0, None), (3, 5), (3, 5))
        self.check((4, None), (3, 5), (4, 5))
        self.check((4, None), (7, None), (7, None))
        self.check((4, None), (4, None), (4, None))
        self.check((0, None), (10 ** 12, None), (10 ** 12, None))
        self.check((0, 10 ** 12), (10 ** 12 - 1, None), (10 ** 12 - 1, 10 ** 12))

    def test_kind(self):
        self.assertIsInstance(common((0, 5), (3, 9)), tuple)
        self.assertIsInstance(common((0, None), (0, None)), tuple)

    def test_told_is_the_askers_own(self):
        one = (0, 5)
        self.assertIsNot(common(one, one), one)
        self.assertIsNot(common(one, (0, None)), one)
        self.assertEqual(one, (0, 5))

    def test_moment_by_moment(self):
        for one in stretches(6):
            for other in stretches(6):
                told = common(one, other)
                for moment in tuple(range(7)) + FAR:
                    both = has(one[0], one[1], moment) and has(other[0], other[1], moment)
                    self.assertEqual(told is not None and has(told[0], told[1], moment), both, (one, other, moment))
                self.assertTrue(told is None or is_stretch(told[0], told[1]), (one, other))


if __name__ == "__main__":
    unittest.main()
