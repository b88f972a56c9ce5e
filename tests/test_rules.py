import unittest
from copy import deepcopy
from itertools import product
from random import Random

from by_moments import LAST, alone_read, line_of, named_read, rows, still_read
from twotimes.rules import Alone, Named, Rule, Still

# A table that breaks each rule, for a sheet that no rule below names.
BAD = {"x": [(0, 5, "no"), (5, 9, "none")], "y": [(0, None, "no")]}


class Rules(unittest.TestCase):
    def check(self, rule, tables, wanted):
        before = deepcopy(tables)
        told, again = rule.broken(tables), rule.broken(tables)
        self.assertEqual(told, wanted, tables)
        self.assertEqual(again, wanted, tables)
        self.assertIs(type(told), type(wanted))
        if wanted is not None:
            self.assertIsNot(told, again)
        self.assertEqual(tables, before)

    # Whichever way round the keys came into the table.
    def check_one(self, rule, table, wanted):
        for other in (table, {key: table[key] for key in reversed(list(table))}):
            self.check(rule, {"one": other}, wanted)
            self.check(rule, {"bad": BAD, "one": other, "two": {}}, wanted)

    def check_two(self, rule, table, other, wanted):
        self.check(rule, {"one": table, "two": other}, wanted)
        turned = {key: table[key] for key in reversed(list(table))}
        self.check(rule, {"two": other, "bad": BAD, "one": turned}, wanted)


class PlainRule(Rules):
    def test_never_broken(self):
        for tables in ({}, {"one": {}}, {"bad": BAD}, {"one": BAD, "two": BAD}):
            self.check(Rule(), tables, None)

    def test_the_others_stand_under_it(self):
        for rule in (Alone("one"), Named("one", "two"), Still("one")):
            self.assertIsInstance(rule, Rule)
        kinds = (Alone, Named, Still)
        self.assertEqual([kind for kind, other in product(kinds, kinds) if kind is not other and issubclass(kind, other)], [])


class AloneRule(Rules):
    def check_alone(self, table, wanted):
        self.check_one(Alone("one"), table, wanted)

    def test_kept(self):
        self.check_alone({}, None)
        self.check_alone({"x": [(0, None, "a")]}, None)
        self.check_alone({"x": [(0, 5, "a"), (7, 9, "a"), (9, 12, "b"), (12, None, "a")]}, None)
        self.check_alone({"x": [(0, None, "a")], "y": [(0, None, "b")]}, None)
        self.check_alone({"x": [(0, 5, "a"), (5, None, "b")], "y": [(0, 5, "b"), (5, None, "a")]}, None)

    def test_kept_where_stretches_touch(self):
        self.check_alone({"x": [(0, 5, "a")], "y": [(5, None, "a")]}, None)
        self.check_alone({"x": [(5, 8, "a")], "y": [(0, 5, "a"), (8, None, "a")]}, None)
        self.check_alone({"x": [(0, LAST, "a")], "y": [(LAST, None, "a")]}, None)

    def test_at_the_bounds_of_moments(self):
        self.check_alone({"x": [(0, None, "a")], "y": [(0, 1, "a")]}, (0, "x"))
        self.check_alone({"x": [(LAST, None, "a")], "y": [(LAST, None, "a")]}, (LAST, "x"))
        self.check_alone({"x": [(0, None, "a")], "y": [(LAST, None, "a")]}, (LAST, "x"))
        self.check_alone({"x": [(0, LAST, "a")], "y": [(LAST - 1, LAST, "a")]}, (LAST - 1, "x"))

    def test_at_a_begin_and_amid_a_stretch(self):
        self.check_alone({"x": [(7, 20, "a")], "y": [(7, 9, "a")]}, (7, "x"))
        self.check_alone({"x": [(0, 20, "a")], "y": [(7, 9, "a")]}, (7, "x"))
        self.check_alone({"x": [(7, 9, "a")], "y": [(0, 20, "a")]}, (7, "x"))
        self.check_alone({"x": [(0, 8, "a")], "y": [(7, 9, "a")]}, (7, "x"))
        self.check_alone({"x": [(7, 9, "a")], "y": [(0, 8, "a")]}, (7, "x"))
        self.check_alone({"x": [(0, None, "a")], "y": [(7, None, "a")]}, (7, "x"))

    def test_by_more_than_two_keys(self):
        self.check_alone({"y": [(0, 9, "a")], "z": [(0, 9, "a")], "x": [(0, 9, "a")]}, (0, "x"))
        self.check_alone({"y": [(0, 9, "a")], "z": [(5, 9, "a")], "x": [(7, 9, "a")]}, (5, "y"))
        self.check_alone({"y": [(0, 9, "a")], "z": [(5, 9, "a")], "x": [(5, 9, "a")]}, (5, "x"))

    def test_keys_that_don_t_share_there(self):
        table = {"w": [(0, None, "b")], "x": [(0, 3, "a")], "y": [(5, 9, "a")], "z": [(7, 8, "a")], "v": [(8, 9, "a")]}
        self.check_alone(table, (7, "y"))

    def test_at_several_moments(self):
        table = {"x": [(0, 5, "a"), (30, 40, "b")], "y": [(50, 60, "b")], "z": [(4, 6, "a"), (35, 55, "b")]}
        self.check_alone(table, (4, "x"))
        table = {"w": [(10, 20, "a")], "x": [(10, 20, "a")], "y": [(3, 9, "b")], "z": [(4, 9, "b")]}
        self.check_alone(table, (4, "y"))

    def test_two_worths_at_once(self):
        table = {"w": [(0, 9, "c")], "x": [(0, 9, "b")], "y": [(5, 9, "a")], "z": [(5, 9, "b")], "zz": [(0, 9, "a")]}
        self.check_alone(table, (5, "x"))
        table = {"w": [(5, 9, "a")], "x": [(0, 9, "b")], "y": [(5, 9, "b")], "z": [(0, 9, "a")]}
        self.check_alone(table, (5, "w"))

    def test_by_each_moment(self):
        for found in product(rows(3), repeat=3):
            table = {key: row for key, row in zip(("x", "w", "y"), found) if any(row)}
            lines = {key: line_of(row) for key, row in table.items()}
            self.assertEqual(Alone("one").broken({"one": lines}), alone_read(table, 3), table)


class NamedRule(Rules):
    def check_named(self, table, other, wanted):
        self.check_two(Named("one", "two"), table, other, wanted)

    def test_kept(self):
        self.check_named({}, {}, None)
        self.check_named({}, {"a": [(0, 5, "w")]}, None)
        self.check_named({"x": [(0, 5, "a")]}, {"a": [(0, 5, "w")]}, None)
        self.check_named({"x": [(3, 5, "a")]}, {"a": [(0, 9, "w")], "b": [(4, 6, "x")]}, None)
        self.check_named({"x": [(3, 5, "a"), (5, 9, "b")]}, {"a": [(0, 5, "w")], "b": [(5, 9, "w")]}, None)
        self.check_named({"x": [(3, 5, "a")], "y": [(4, 9, "a")]}, {"a": [(3, 9, "w")]}, None)

    def test_kept_by_stretches_that_touch(self):
        self.check_named({"x": [(0, 9, "a")]}, {"a": [(0, 5, "w"), (5, 7, "v"), (7, 12, "w")]}, None)
        self.check_named({"x": [(0, None, "a")]}, {"a": [(0, LAST, "w"), (LAST, None, "v")]}, None)
        table = {"x": [(3, 8, "a")], "y": [(0, 9, "a")], "z": [(6, 7, "a")]}
        self.check_named(table, {"a": [(0, 4, "w"), (4, 9, "v")]}, None)

    def test_no_such_key(self):
        self.check_named({"x": [(0, 5, "a")]}, {}, (0, "x"))
        self.check_named({"x": [(3, 5, "a")]}, {"b": [(0, None, "a")]}, (3, "x"))
        self.check_named({"x": [(3, 5, "a")]}, {"x": [(0, None, "a")]}, (3, "x"))
        self.check_named({"x": [(LAST, None, "a")]}, {"a": [(0, LAST, "w")]}, (LAST, "x"))

    def test_at_a_begin(self):
        self.check_named({"x": [(3, 5, "a")]}, {"a": [(4, 9, "w")]}, (3, "x"))
        self.check_named({"x": [(3, 5, "a")]}, {"a": [(5, 9, "w")]}, (3, "x"))
        self.check_named({"x": [(3, 5, "a")]}, {"a": [(0, 3, "w")]}, (3, "x"))
        self.check_named({"x": [(3, 5, "a"), (7, 8, "a")]}, {"a": [(0, 6, "w")]}, (7, "x"))

    def test_amid_a_stretch(self):
        self.check_named({"x": [(3, 9, "a")]}, {"a": [(0, 7, "w")]}, (7, "x"))
        self.check_named({"x": [(3, 9, "a")]}, {"a": [(3, 8, "w")]}, (8, "x"))
        self.check_named({"x": [(0, 9, "a")]}, {"a": [(0, 4, "w"), (5, 9, "w")]}, (4, "x"))
        self.check_named({"x": [(0, 9, "a")]}, {"a": [(0, 4, "w"), (4, 6, "v"), (7, 9, "w")]}, (6, "x"))

    def test_without_an_end(self):
        self.check_named({"x": [(3, None, "a")]}, {"a": [(0, None, "w")]}, None)
        self.check_named({"x": [(3, 9, "a")]}, {"a": [(0, None, "w")]}, None)
        self.check_named({"x": [(3, LAST, "a")]}, {"a": [(0, LAST, "w")]}, None)
        self.check_named({"x": [(3, None, "a")]}, {"a": [(0, LAST, "w")]}, (LAST, "x"))
        self.check_named({"x": [(3, None, "a")]}, {"a": [(0, 30, "w")]}, (30, "x"))

    def test_several_keys_and_moments(self):
        other = {"a": [(0, 7, "w")], "b": [(0, 5, "w")]}
        self.check_named({"x": [(0, 9, "a")], "y": [(0, 9, "b")]}, other, (5, "y"))
        self.check_named({"x": [(0, 9, "b")], "y": [(0, 9, "b")]}, other, (5, "x"))
        self.check_named({"z": [(0, 9, "b")], "y": [(6, 9, "b")], "x": [(5, 6, "c")]}, other, (5, "x"))
        self.check_named({"z": [(0, 9, "b")], "y": [(4, 9, "c")], "x": [(2, 3, "b"), (4, 5, "d")]}, other, (4, "x"))
        self.check_named({"x": [(0, 5, "b"), (8, 9, "a")], "y": [(0, 7, "a"), (7, 9, "b")]}, other, (7, "y"))
        self.check_named({"x": [(0, 5, "b")], "y": [(6, 8, "a")], "z": [(1, 9, "a")]}, other, (7, "y"))

    def test_the_other_way_round_is_another_rule(self):
        table, other = {"x": [(0, 5, "a")]}, {"a": [(0, 5, "w")]}
        self.check(Named("one", "two"), {"one": table, "two": other}, None)
        self.check(Named("two", "one"), {"one": table, "two": other}, (0, "a"))

    def test_one_sheet_twice(self):
        rule = Named("one", "one")
        self.check_one(rule, {}, None)
        self.check_one(rule, {"a": [(0, 5, "a")]}, None)
        self.check_one(rule, {"a": [(0, 5, "b")], "b": [(0, 5, "a")]}, None)
        self.check_one(rule, {"a": [(0, 5, "b")], "b": [(0, None, "b")]}, None)
        self.check_one(rule, {"a": [(0, 5, "b")]}, (0, "a"))
        self.check_one(rule, {"b": [(0, 9, "a")], "a": [(0, 5, "a")]}, (5, "b"))
        self.check_one(rule, {"c": [(0, None, "a")], "a": [(0, LAST, "a")], "b": [(4, None, "c")]}, (LAST, "c"))
        self.check_one(rule, {"c": [(0, 7, "a")], "a": [(0, 5, "b"), (5, 7, "c")], "b": [(0, 5, "b"), (6, 7, "x")]}, (6, "b"))

    def test_by_each_moment(self):
        for found in product(rows(3), rows(3), rows(3, (None, "w", "v"))):
            table = {key: row for key, row in zip(("y", "x"), found) if any(row)}
            other = {"a": found[2]} if any(found[2]) else {}
            lines, others = [{key: line_of(row) for key, row in some.items()} for some in (table, other)]
            self.assertEqual(
                Named("one", "two").broken({"one": lines, "two": others}), named_read(table, other, 3), (table, other)
            )

    def test_one_sheet_twice_by_each_moment(self):
        for found in product(rows(3), repeat=2):
            table = {key: row for key, row in zip(("b", "a"), found) if any(row)}
            lines = {key: line_of(row) for key, row in table.items()}
            self.assertEqual(Named("one", "one").broken({"one": lines}), named_read(table, table, 3), table)

    # Many stretches of one worth, in several keys, along many of the other's.
    def test_long_lines_by_each_moment(self):
        chance = Random(7)
        for number in range(400):
            table = {key: [chance.choice((None, "a")) for moment in range(12)] for key in ("z", "x", "y")}
            other = {"a": [chance.choice("wwv") for moment in range(12)]}
            for moment in range(12):
                if chance.random() < 0.2:
                    other["a"][moment] = None
                    for key in table:
                        # So that the first breach may lie late.
                        if chance.random() < 0.9:
                            table[key][moment] = None
            table = {key: row for key, row in table.items() if any(row)}
            lines, others = [{key: line_of(row) for key, row in some.items()} for some in (table, other)]
            self.assertEqual(
                Named("one", "two").broken({"one": lines, "two": others}), named_read(table, other, 12), (table, other)
            )


class StillRule(Rules):
    def check_still(self, table, wanted):
        self.check_one(Still("one"), table, wanted)

    def test_kept(self):
        self.check_still({}, None)
        self.check_still({"x": [(0, None, "a")]}, None)
        self.check_still({"x": [(0, 5, "a"), (7, 9, "a"), (12, None, "a")]}, None)
        self.check_still({"x": [(0, 5, "a")], "y": [(0, 5, "b")]}, None)
        self.check_still({"x": [(0, 5, "a")], "y": [(0, 5, "a")]}, None)

    def test_broken(self):
        self.check_still({"x": [(0, 5, "a"), (5, 9, "b")]}, (5, "x"))
        self.check_still({"x": [(0, 5, "b"), (7, 9, "a")]}, (7, "x"))
        self.check_still({"x": [(0, 5, "a"), (7, 9, "a"), (9, 10, "b")]}, (9, "x"))
        self.check_still({"x": [(0, 1, "a"), (1, None, "b")]}, (1, "x"))
        self.check_still({"x": [(0, LAST, "a"), (LAST, None, "b")]}, (LAST, "x"))

    def test_a_worth_that_comes_back(self):
        self.check_still({"x": [(0, 5, "a"), (5, 9, "b"), (9, 12, "a")]}, (5, "x"))
        self.check_still({"x": [(0, 5, "a"), (6, 7, "a"), (8, 9, "b"), (9, 12, "a"), (12, None, "c")]}, (8, "x"))

    def test_several_keys_and_moments(self):
        self.check_still({"x": [(0, 5, "a"), (7, 9, "b")], "y": [(0, 5, "a"), (6, 9, "c")]}, (6, "y"))
        self.check_still({"y": [(0, 5, "a"), (7, 9, "b")], "x": [(1, 5, "a"), (7, 8, "c")]}, (7, "x"))
        self.check_still({"w": [(7, 9, "a")], "y": [(0, 5, "a"), (7, 9, "b")], "x": [(1, 5, "a"), (5, 6, "c")]}, (5, "x"))
        self.check_still({"w": [(0, 9, "a")], "z": [(0, 5, "a"), (7, 9, "b")], "y": [(1, 5, "a"), (7, 8, "c")]}, (7, "y"))
        # The first stretch of a key breaks nothing, though it begins where another key breaks the rule.
        self.check_still({"x": [(7, 9, "b")], "y": [(0, 5, "a"), (7, 9, "b")]}, (7, "y"))
        # Nor does a stretch that is like all earlier ones of its key.
        self.check_still({"x": [(0, 3, "b"), (7, 9, "b"), (9, 10, "a")], "y": [(0, 5, "a"), (7, 9, "b")]}, (7, "y"))

    def test_numbers_by_their_size(self):
        self.check_still({"x": [(0, 5, "a"), (10, 11, "b")], "y": [(0, 5, "a"), (9, 10, "b")]}, (9, "y"))

    def test_by_each_moment(self):
        for found in product(rows(4), rows(4)):
            table = {key: row for key, row in zip(("y", "x"), found) if any(row)}
            lines = {key: line_of(row) for key, row in table.items()}
            self.assertEqual(Still("one").broken({"one": lines}), still_read(table, 4), table)
        for row in rows(5, (None, "a", "b", "c")):
            table = {"x": row} if any(row) else {}
            lines = {key: line_of(row) for key, row in table.items()}
            self.assertEqual(Still("one").broken({"one": lines}), still_read(table, 5), row)


class KeepsNothing(unittest.TestCase):
    def test_other_tables_between(self):
        good = {"one": {"a": [(0, 5, "a")]}, "two": {"a": [(0, 5, "w")]}}
        bad = {"one": {"a": [(0, 5, "a"), (5, 9, "b")], "b": [(3, 9, "a")]}, "two": {}}
        for rule, place in ((Alone("one"), (3, "a")), (Named("one", "two"), (0, "a")), (Still("one"), (5, "a"))):
            told = [rule.broken(tables) for tables in (good, bad, good, bad, bad, good)]
            self.assertEqual(told, [None, place, None, place, place, None])

    def test_two_rules_of_a_kind_beside_each_other(self):
        tables = {"one": {}, "two": {"x": [(0, 5, "a"), (5, 6, "b")], "y": [(0, 5, "a")]}}
        for kind, place in ((Alone, (0, "x")), (Still, (5, "x"))):
            one, two = kind("one"), kind("two")
            self.assertEqual([one.broken(tables), two.broken(tables), one.broken(tables)], [None, place, None])
        one, two = Named("one", "two"), Named("two", "one")
        self.assertEqual([one.broken(tables), two.broken(tables), one.broken(tables)], [None, (0, "x"), None])


class Sizes(unittest.TestCase):
    def test_three_hundred_keys_and_stretches(self):
        line = [(2 * number, 2 * number + 1, "a") for number in range(300)]
        names = [one + two for one in "abcdefghijklmnopqrst" for two in "abcdefghijklmno"]
        tables = {"one": {name: list(line) for name in names}, "two": {"a": list(line)}}
        self.assertIsNone(Named("one", "two").broken(tables))
        self.assertIsNone(Still("one").broken(tables))
        self.assertEqual(Alone("one").broken(tables), (0, "aa"))
        tables["two"]["a"].pop()
        self.assertEqual(Named("one", "two").broken(tables), (598, "aa"))


if __name__ == "__main__":
    unittest.main()
