import copy
import unittest

from checks import b_column, check_new_lists, check_raises
from keptworths.errors import InvalidKind, UnknownColumn
from keptworths.rows import IndexedRow, Row
from keptworths.standings import always_now, comes, first, first_missed, first_wrongly
from keptworths.tables import Table
from many_tables import random_tables

EDITION = ("edition",)
PUT = ("put",)
SET = ("set", "a")
STANDINGS = ("now", "old", "lacks", "nobody")
WAYS = ("told", "written", "reckoned")


class First(unittest.TestCase):
    def test_the_first_put_is_now(self):
        for plain, editions in random_tables(1, 40, plain=2, columns=3, editions=3, sources=2):
            table = Table(plain, editions)
            for column in table.columns:
                self.assertEqual(first(table, column, "now"), [PUT])

    def test_one_edition(self):
        for held, expected in (("read", None), ("follows", None), ("stays", [PUT, SET])):
            table = b_column(("f", held))
            self.assertEqual(first(table, "b", "old"), expected)
            self.assertEqual([first(table, "b", "lacks"), first(table, "b", "nobody")], [None, None])

    def test_a_new_formula(self):
        self.assertEqual(first(b_column(("f", "follows"), ("g", "follows")), "b", "old"), [PUT, EDITION])
        self.assertEqual(first(b_column(("f", "read"), ("g", "read")), "b", "old"), None)
        self.assertEqual(first(b_column(("f", "read"), ("g", "stays")), "b", "lacks"), [PUT, EDITION])

    def test_kept_again(self):
        table = b_column(("f", "follows"), ("f", "read"), ("f", "follows"))
        self.assertEqual(first(table, "b", "old"), [PUT, EDITION, PUT, EDITION])

    def test_values_that_never_stood_together_need_two_deeds(self):
        table = Table(["a", "d"], [[("b", "f", ["a"], "stays"), ("c", "g", ["b", "d"], "read")]])
        self.assertEqual(first(table, "c", "old"), [PUT, ("set", "a")])
        self.assertEqual(first(table, "c", "nobody"), [PUT, ("set", "a"), ("set", "d")])

    def test_ahead_of_all_that_are_as_long(self):
        table = Table(["a", "d"], [[("b", "f", ["d", "a"], "stays")], [("b", "g", ["a", "d"], "stays")]])
        self.assertEqual(first(table, "b", "old"), [PUT, ("set", "a")])
        table = Table(["a", "d"], [[("b", "f", ["d"], "stays")], [("b", "g", ["a", "d"], "stays")]])
        self.assertEqual(first(table, "b", "old"), [PUT, ("set", "d")])

    def test_the_same_parts_by_other_columns(self):
        # The worth of c is told by b once, and is what e, by the next edition, has from d.
        table = Table(["a"], [
            [("b", "f", ["a"], "stays"), ("c", "f", ["a"], "read"), ("e", "h", ["b"], "stays")],
            [("b", "g", ["a"], "stays"), ("c", "f", ["a"], "read"), ("e", "h", ["c"], "stays")],
        ])
        self.assertEqual(comes(table, "e"), ["now", "old"])

    def test_a_formula_named_as_a_plain_column(self):
        table = Table(["a"], [
            [("b", "a", [], "stays"), ("c", "f", ["b"], "stays")],
            [("b", "a", ["a"], "stays"), ("c", "f", ["a"], "stays")],
        ])
        self.assertEqual([comes(table, "b"), comes(table, "c")], [["now", "old"], ["now", "old"]])
        self.assertEqual(first(table, "c", "old"), [PUT, EDITION])

    def test_nobodys_only_by_a_mixture_of_editions(self):
        table = Table(["a"], [
            [("b", "f", ["a"], "stays"), ("c", "u", ["b"], "stays")],
            [("b", "g", ["a"], "stays"), ("c", "v", ["b"], "stays")],
        ])
        self.assertEqual(first(table, "c", "nobody"), [PUT, EDITION, ("rewrite", "c")])
        self.assertEqual(first(table, "b", "nobody"), None)


class Always(unittest.TestCase):
    def test_in_order(self):
        table = Table(["a"], [[
            ("e", "f", ["a"], "follows"), ("d", "f", ["a"], "stays"), ("c", "g", ["e"], "read"), ("b", "g", ["d"], "read"),
            ("k", "g", [], "stays"),
        ]])
        self.assertEqual(always_now(table), ["e", "c", "k"])

    def test_no_column(self):
        self.assertEqual(always_now(Table(["a"], [[]])), [])

    def test_as_comes_says(self):
        for plain, editions in random_tables(2, 60, plain=2, columns=3, editions=2, sources=2):
            table = Table(plain, editions)
            alone = [column for column in table.columns if comes(table, column) == ["now"]]
            self.assertEqual(always_now(table), alone)

    def test_tables_that_are_all_read(self):
        for plain, editions in random_tables(3, 40, plain=2, columns=3, editions=3, sources=2):
            read = Table(plain, [[line[:3] + ("read",) for line in edition] for edition in editions])
            self.assertEqual(always_now(read), read.columns)
            self.assertEqual([comes(read, column) for column in read.columns], [["now"]] * 3)


class Comes(unittest.TestCase):
    def test_all_four_in_order(self):
        table = Table(["a"], [
            [("b", "f", ["a"], "stays"), ("c", "u", ["b", "a"], "read")],
            [("b", "f", ["a"], "stays"), ("c", "u", ["b", "a"], "stays")],
        ])
        self.assertEqual(comes(table, "c"), ["now", "old", "lacks", "nobody"])

    def test_as_first_says(self):
        for plain, editions in random_tables(5, 40, plain=2, columns=3, editions=3, sources=2):
            table = Table(plain, editions)
            for column in table.columns:
                told = [first(table, column, standing) is not None for standing in STANDINGS]
                self.assertEqual([standing in comes(table, column) for standing in STANDINGS], told)


class Faults(unittest.TestCase):
    def test_a_column_that_stays(self):
        table = b_column(("f", "stays"))
        self.assertEqual([first_missed(table, "b", way) for way in WAYS], [None] * 3)
        self.assertEqual([first_wrongly(table, "b", way) for way in WAYS], [None, None, [PUT, SET, ("rewrite", "b")]])

    def test_a_read_column(self):
        table = b_column(("f", "read"))
        for search in (first_missed, first_wrongly):
            self.assertEqual([search(table, "b", way) for way in WAYS], [None, [PUT, SET], [PUT, SET]])

    def test_read_by_the_last_edition(self):
        table = b_column(("f", "follows"), ("f", "follows"), ("f", "read"))
        for search in (first_missed, first_wrongly):
            self.assertEqual(search(table, "b", "written"), [PUT, EDITION, EDITION, SET])

    def test_read_and_hanging_on_nothing(self):
        table = Table(["a"], [[("b", "f", [], "stays")], [("b", "f", [], "read")]])
        for search in (first_missed, first_wrongly):
            self.assertEqual([search(table, "b", way) for way in WAYS], [None] * 3)

    def test_a_worth_that_lacks_is_found_wrongly_but_not_missed(self):
        table = Table(["a"], [[("b", "f", [], "read")], [("b", "f", [], "stays")]])
        self.assertEqual([first_missed(table, "b", way) for way in WAYS], [None] * 3)
        self.assertEqual([first_wrongly(table, "b", way) for way in WAYS], [None] + [[PUT, EDITION]] * 2)


class WhatIsGuaranteed(unittest.TestCase):
    """What [10] says of indexes."""

    def setUp(self):
        made = random_tables(6, 120, plain=2, columns=3, editions=2, sources=2)
        made += random_tables(7, 60, plain=2, columns=3, editions=3, sources=2)
        self.tables = [Table(plain, editions) for plain, editions in made]

    def hangs(self, table, edition, column):
        if column in table.plain:
            return True
        sources = table[column][edition][1]
        return any(self.hangs(table, edition, source) for source in sources)

    def test_told_indexes_have_no_fault(self):
        for table in self.tables:
            for column in table.columns:
                self.assertIsNone(first_missed(table, column, "told"))
                self.assertIsNone(first_wrongly(table, column, "told"))

    def test_columns_that_every_edition_keeps(self):
        many = 0
        for table in self.tables:
            for column in table.columns:
                if "read" in [held for _, _, held in table[column]]:
                    continue
                many += 1
                self.assertEqual([first_missed(table, column, way) for way in WAYS], [None] * 3)
                self.assertIsNone(first_wrongly(table, column, "written"))
                can = any(first(table, column, standing) for standing in ("old", "nobody"))
                self.assertEqual(first_wrongly(table, column, "reckoned") is not None, can)
        self.assertGreater(many, 100)

    def test_columns_that_hang_on_a_plain_one_where_they_are_read(self):
        many = 0
        for table in self.tables:
            for column in table.columns:
                if any(line[2] == "read" and self.hangs(table, at, column) for at, line in enumerate(table[column])):
                    many += 1
                    for way in WAYS[1:]:
                        self.assertIsNotNone(first_missed(table, column, way))
                        self.assertIsNotNone(first_wrongly(table, column, way))
        self.assertGreater(many, 100)

    def test_behind_the_histories_it_is_so(self):
        for table in self.tables:
            for column in table.columns:
                for standing in STANDINGS:
                    row = Row(table)
                    for deed in (first(table, column, standing) or [])[1:]:
                        row(deed)
                    if first(table, column, standing):
                        self.assertEqual(row.standing(column), standing)
                for way in WAYS[1:]:
                    missed, wrongly = first_missed(table, column, way), first_wrongly(table, column, way)
                    self.assertTrue(missed is None or done(table, column, way, missed).missed())
                    self.assertTrue(wrongly is None or done(table, column, way, wrongly).wrongly())


def done(table, column, way, history):
    row = IndexedRow(table, column, way)
    for deed in history[1:]:
        row(deed)
    return row


class Arguments(unittest.TestCase):
    def setUp(self):
        self.table = b_column(("f", "read"), ("f", "stays"))

    def test_by_name(self):
        table = self.table
        self.assertEqual(first(table=table, column="b", standing="lacks"), [PUT, EDITION])
        self.assertEqual(first(table, standing="lacks", column="b"), [PUT, EDITION])
        self.assertEqual(comes(table=table, column="b"), ["now", "old", "lacks"])
        self.assertEqual(always_now(table=table), [])
        self.assertEqual(first_missed(table=table, column="b", way="written"), [PUT, SET])
        self.assertEqual(first_wrongly(way="reckoned", table=table, column="b"), [PUT, SET])

    def test_what_is_returned_is_new(self):
        table = self.table
        editions = copy.deepcopy(table.editions)
        check_new_lists(self, lambda: first(table, "b", "old"))
        check_new_lists(self, lambda: comes(table, "b"))
        check_new_lists(self, lambda: always_now(b_column(("f", "read"))))
        check_new_lists(self, lambda: first_missed(table, "b", "written"))
        check_new_lists(self, lambda: first_wrongly(table, "b", "reckoned"))
        self.assertEqual(table.editions, editions)


class Errors(unittest.TestCase):
    def setUp(self):
        self.table = b_column(("f", "read"), ("f", "stays"))

    def test_unknown_columns(self):
        for name in ("a", "c", "", "f", "now", "told"):
            with self.subTest(name):
                check_raises(self, UnknownColumn, name, comes, self.table, name)
                check_raises(self, UnknownColumn, name, comes, table=self.table, column=name)
                for standing in STANDINGS:
                    check_raises(self, UnknownColumn, name, first, self.table, name, standing)
                for way in WAYS:
                    check_raises(self, UnknownColumn, name, first_missed, self.table, name, way)
                    check_raises(self, UnknownColumn, name, first_wrongly, self.table, name, way)

    def test_other_standings_and_ways(self):
        for text in ("", "Now", "older", "now ", "read", "stays", "b"):
            with self.subTest(text):
                check_raises(self, InvalidKind, text, first, self.table, "b", text)
                check_raises(self, InvalidKind, text, first, self.table, column="b", standing=text)
                check_raises(self, InvalidKind, text, first_missed, self.table, "b", text)
                check_raises(self, InvalidKind, text, first_wrongly, self.table, "b", text)
        for way in WAYS:
            check_raises(self, InvalidKind, way, first, self.table, "b", way)
        for standing in STANDINGS:
            check_raises(self, InvalidKind, standing, first_missed, self.table, "b", standing)
            check_raises(self, InvalidKind, standing, first_wrongly, self.table, column="b", way=standing)

    def test_the_column_is_checked_ahead_of_the_other_text(self):
        for call in (first, first_missed, first_wrongly):
            check_raises(self, UnknownColumn, "a", call, self.table, "a", "no")
            check_raises(self, UnknownColumn, "x", call, self.table, "x", "")


if __name__ == "__main__":
    unittest.main()
