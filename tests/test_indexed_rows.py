import unittest

from checks import b_column, check_new_lists, check_raises
from keptworths.errors import InvalidDeed, InvalidKind, NothingToUndo, UnknownColumn
from keptworths.rows import IndexedRow, Row
from keptworths.tables import Table

EDITION = ("edition",)
PUT = ("put",)
SET = ("set", "a")
REWRITE = ("rewrite", "b")
WAYS = ("told", "written", "reckoned")


def worth(name, number):
    return ("formula", name, [("plain", "a", number)])


def done(table, way, *deeds, column="b"):
    row = IndexedRow(table, column, way)
    for deed in deeds:
        row(deed)
    return row


def faults(row):
    return (row.missed(), row.wrongly())


class EachWay(unittest.TestCase):
    def check(self, table, deeds, expected):
        """What each way has as entries, whether the row is missed, and found wrongly."""
        for way, (entries, missed, wrongly) in zip(WAYS, expected):
            with self.subTest(way):
                row = done(table, way, *deeds)
                self.assertEqual(row.entries(), entries)
                self.assertIs(row.missed(), missed)
                self.assertIs(row.wrongly(), wrongly)

    def test_it_is_built_with_the_row(self):
        for held in ("read", "follows", "stays"):
            self.check(b_column(("f", held)), [], [([worth("f", 1)], False, False)] * 3)

    def test_a_column_that_follows(self):
        self.check(b_column(("f", "follows")), [SET, SET], [([worth("f", 3)], False, False)] * 3)

    def test_a_column_that_stays(self):
        table = b_column(("f", "stays"))
        self.check(table, [SET], [([worth("f", 1)], False, False)] * 3)
        old_and_new = [worth("f", 1), worth("f", 2)]
        self.check(table, [SET, REWRITE], [
            ([worth("f", 2)], False, False), ([worth("f", 2)], False, False), (old_and_new, False, True),
        ])

    def test_a_read_column(self):
        written = ([worth("f", 1)], True, True)
        self.check(b_column(("f", "read")), [SET], [([worth("f", 2)], False, False), written, written])
        self.check(b_column(("f", "read")), [SET, REWRITE], [([worth("f", 2)], False, False), written, written])

    def test_put_empties_it(self):
        self.check(b_column(("f", "read")), [SET, PUT], [([worth("f", 3)], False, False)] * 3)
        self.check(b_column(("f", "stays")), [SET, REWRITE, PUT], [([worth("f", 3)], False, False)] * 3)

    def test_an_edition_changes_only_a_told_index(self):
        written = ([worth("f", 1)], True, True)
        self.check(b_column(("f", "stays"), ("g", "read")), [EDITION], [([worth("g", 1)], False, False), written, written])

    def test_a_worth_that_lacks_is_not_put_in(self):
        table = b_column(("f", "read"), ("f", "follows"))
        written = ([worth("f", 1)], False, True)
        self.check(table, [EDITION], [([], False, False), written, written])
        both = ([worth("f", 1), worth("f", 2)], False, True)
        self.check(table, [EDITION, SET], [([worth("f", 2)], False, False), both, ([worth("f", 2)], False, False)])

    def test_the_true_worth_is_the_one_ahead_of_the_deed(self):
        table = b_column(("f", "stays"), ("g", "follows"))
        self.check(table, [EDITION, SET], [
            ([worth("g", 2)], False, False), ([worth("g", 2)], False, False),
            ([worth("f", 1), worth("g", 2)], False, True),
        ])
        self.check(table, [EDITION, SET, SET], [
            ([worth("g", 3)], False, False), ([worth("g", 3)], False, False),
            ([worth("f", 1), worth("g", 3)], False, True),
        ])

    def test_the_true_worth_is_by_the_edition_now(self):
        table = b_column(("f", "stays"), ("g", "stays"))
        self.check(table, [EDITION, REWRITE, REWRITE], [
            ([worth("g", 1)], False, False), ([worth("g", 1)], False, False),
            ([worth("f", 1), worth("g", 1)], False, True),
        ])

    def test_a_column_reckoned_to_nothing(self):
        table = Table(["a"], [
            [("c", "h", ["a"], "read"), ("b", "f", ["c"], "stays")],
            [("c", "h", ["a"], "stays"), ("b", "f", ["c"], "stays")],
        ])
        entry = ("formula", "f", [("formula", "h", [("plain", "a", 1)])])
        self.check(table, [EDITION], [([entry], False, False)] * 3)
        self.check(table, [EDITION, REWRITE], [([], False, False)] * 3)
        self.check(table, [EDITION, SET, REWRITE], [([], False, False), ([], False, False), ([entry], False, True)])


    def test_missed_but_not_found_wrongly(self):
        table = Table(["a"], [
            [("c", "h", ["a"], "read"), ("b", "f", ["c"], "stays")],
            [("c", "h", ["a"], "stays"), ("b", "f", ["c"], "stays")],
            [("c", "h", ["a"], "stays"), ("b", "g", ["a"], "read")],
        ])
        for way in WAYS[1:]:
            row = done(table, way, EDITION, REWRITE, EDITION)
            self.assertEqual((row.entries(), row.told("b"), faults(row)), ([], worth("g", 1), (True, False)))
        self.assertEqual(done(table, "told", EDITION, REWRITE, EDITION).entries(), [worth("g", 1)])


class Order(unittest.TestCase):
    def test_what_is_taken_out_and_put_in_again_is_last(self):
        table = b_column(("f", "read"), ("g", "stays"))
        entries = [[worth("f", 1), worth("g", 1)]] * 2
        self.assertEqual([done(table, "written", EDITION, REWRITE, *more).entries() for more in ([], [REWRITE])], entries)
        table = Table(["a"], [[("b", "f", [], "read")], [("b", "g", [], "stays")], [("b", "f", [], "stays")]])
        first, second = ("formula", "f", []), ("formula", "g", [])
        row = done(table, "written", EDITION, REWRITE)
        self.assertEqual(row.entries(), [first, second])
        row(EDITION)
        self.assertEqual((row.entries(), faults(row)), ([first, second], (False, True)))
        row(REWRITE)
        self.assertEqual((row.entries(), faults(row)), ([first], (False, False)))

    def test_reckoned_again_to_the_same_worth_behind_another_entry(self):
        table = Table(["a"], [
            [("b", "f", [], "stays")], [("b", "g", [], "read")], [("b", "f", [], "stays")],
        ])
        row = done(table, "written", EDITION, EDITION, REWRITE)
        self.assertEqual((row.entries(), faults(row)), ([("formula", "f", [])], (False, False)))

    def test_an_entry_that_is_there_keeps_its_place(self):
        table = Table(["a"], [[("b", "f", [], "read")], [("b", "g", [], "stays")], [("b", "f", [], "stays")]])
        first, second = ("formula", "f", []), ("formula", "g", [])
        row = done(table, "reckoned", EDITION, REWRITE)
        self.assertEqual(row.entries(), [first, second])
        row(EDITION)
        self.assertEqual(row.entries(), [first, second])
        row(REWRITE)
        self.assertEqual(row.entries(), [second, first])
        row(REWRITE)
        self.assertEqual((row.entries(), faults(row)), ([second, first], (False, True)))

    def test_many_entries(self):
        row = done(b_column(("f", "stays")), "reckoned", *[SET, REWRITE] * 3)
        self.assertEqual(row.entries(), [worth("f", number) for number in (1, 2, 3, 4)])
        row(REWRITE)
        self.assertEqual(row.entries(), [worth("f", number) for number in (1, 2, 3, 4)])


class AsRow(unittest.TestCase):
    def test_it_tells_what_a_row_tells(self):
        table = b_column(("f", "stays"), ("g", "read"), ("h", "follows"))
        for way in WAYS:
            row, indexed = Row(table), IndexedRow(table, "b", way)
            for deed in (SET, REWRITE, EDITION, SET, EDITION, SET, PUT):
                self.assertEqual(indexed(deed), row(deed))
                self.assertEqual(indexed.told("b"), row.told("b"))
                self.assertEqual(indexed.true("b", 1), row.true("b", 1))
                self.assertEqual(indexed.standing("b"), row.standing("b"))
                self.assertEqual((indexed.history, indexed.edition), (row.history, row.edition))
                self.assertEqual(len(indexed), len(row))

    def test_it_is_a_subclass(self):
        self.assertEqual(IndexedRow.__bases__, (Row,))
        for name in ("entries", "missed", "wrongly"):
            self.assertIn(name, vars(IndexedRow))
        for name in ("told", "true", "standing", "undo", "__call__", "__len__", "__eq__", "edition", "history"):
            self.assertIn(name, vars(Row))

    def test_undo_takes_back_entries(self):
        table = b_column(("f", "stays"), ("g", "read"), ("g", "stays"))
        for way in WAYS:
            row = IndexedRow(table, "b", way)
            before = []
            for deed in (SET, REWRITE, EDITION, SET, EDITION, REWRITE, PUT):
                before.append((row.entries(), faults(row), row.told("b")))
                row(deed)
            while before:
                self.assertIsNone(row.undo())
                self.assertEqual((row.entries(), faults(row), row.told("b")), before.pop())
            check_raises(self, NothingToUndo, 0, row.undo)
            self.assertEqual((row.entries(), len(row)), ([worth("f", 1)], 1))
            row(SET)
            row.undo()
            self.assertEqual(row.entries(), [worth("f", 1)])

    def test_whether_it_is_asked_in_between_or_not(self):
        table = b_column(("f", "stays"), ("g", "read"), ("g", "follows"))
        deeds = [SET, REWRITE, "undo", REWRITE, EDITION, SET, EDITION, "undo", PUT, SET, EDITION]
        deeds += [SET, REWRITE, "undo", SET]
        for way in WAYS:
            asked, silent = IndexedRow(table, "b", way), IndexedRow(table, "b", way)
            for deed in deeds:
                for row in (asked, silent):
                    if deed == "undo":
                        row.undo()
                    else:
                        row(deed)
                asked.entries().append("spoilt")
                faults(asked)
                asked.told("b")
            self.assertEqual((asked.entries(), faults(asked)), (silent.entries(), faults(silent)))
            self.assertTrue(asked == silent)
            self.assertEqual(done(table, way, *silent.history[1:]).entries(), silent.entries())

    def test_entries_are_new(self):
        row = done(b_column(("f", "stays")), "reckoned", SET, REWRITE)
        check_new_lists(self, row.entries)
        self.assertEqual(row.entries(), [worth("f", 1), worth("f", 2)])
        self.assertEqual(row.told("b"), worth("f", 2))

    def test_equality(self):
        table = Table(["a"], [[("b", "f", ["a"], "stays"), ("c", "f", ["a"], "stays")]])
        row = IndexedRow(table, "b", "told")
        self.assertTrue(row == IndexedRow(table, "b", "told"))
        self.assertFalse(row != IndexedRow(table, "b", "told"))
        others = [
            IndexedRow(table, "c", "told"), IndexedRow(table, "b", "written"), done(table, "told", SET), Row(table),
            IndexedRow(Table(["a"], [table.editions[0]] * 2), "b", "told"), None, [], table, object(),
        ]
        for other in others:
            self.assertFalse(row == other)
            self.assertFalse(other == row)
            self.assertTrue(row != other)
        row(SET)
        self.assertTrue(row == done(table, "told", SET))


class Arguments(unittest.TestCase):
    def test_by_name(self):
        table = b_column(("f", "stays"))
        row = IndexedRow(table=table, column="b", way="written")
        self.assertTrue(row == IndexedRow(way="written", column="b", table=table))
        self.assertEqual(row(deed=SET), ["a"])
        self.assertEqual(row.told(column="b"), worth("f", 1))


class Errors(unittest.TestCase):
    def setUp(self):
        self.table = b_column(("f", "stays"))

    def test_unknown_columns(self):
        for name in ("a", "c", "", "f"):
            for way in WAYS + ("no",):
                check_raises(self, UnknownColumn, name, IndexedRow, self.table, name, way)
                check_raises(self, UnknownColumn, name, IndexedRow, table=self.table, column=name, way=way)

    def test_other_ways(self):
        for way in ("", "Told", "read", "stays", "written ", "now"):
            check_raises(self, InvalidKind, way, IndexedRow, self.table, "b", way)
            check_raises(self, InvalidKind, way, IndexedRow, self.table, column="b", way=way)

    def test_nothing_changes_behind_an_error(self):
        for way in WAYS:
            row = done(self.table, way, SET, REWRITE)
            entries = row.entries()
            for deed in ((), EDITION, ("set", "b"), ("rewrite", "a"), ("put", "a")):
                check_raises(self, InvalidDeed, deed, row, deed)
                self.assertEqual((row.entries(), len(row)), (entries, 3))
            check_raises(self, UnknownColumn, "a", row.standing, "a")
            row.undo()
            row.undo()
            check_raises(self, NothingToUndo, 0, row.undo)
            row(SET)
            row(REWRITE)
            self.assertEqual(row.entries(), entries)


if __name__ == "__main__":
    unittest.main()
