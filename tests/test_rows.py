import copy
import unittest

from checks import check_new_lists, check_raises
from keptworths.errors import InvalidDeed, InvalidEdition, NothingToUndo, UnknownColumn
from keptworths.rows import IndexedRow, Row
from keptworths.tables import Table

EDITION = ("edition",)
PUT = ("put",)


def one_plain(*kinds):
    """A table with one column over "a", held as told, by one formula for each edition."""
    return Table(["a"], [[("b", "fgh"[index], ["a"], held)] for index, held in enumerate(kinds)])


def plain(number, column="a"):
    return ("plain", column, number)


def formula(name, *worths):
    return ("formula", name, list(worths))


class Beginning(unittest.TestCase):
    def test_a_row_is_put(self):
        table = Table(["a", "d"], [[("b", "f", ["d", "a"], "stays"), ("c", "h", ["b"], "read")]])
        row = Row(table)
        self.assertEqual((row.history, len(row), row.edition), ([PUT], 1, 0))
        self.assertEqual([row.told("a"), row.told("d")], [plain(1), plain(1, "d")])
        self.assertEqual(row.told("b"), formula("f", plain(1, "d"), plain(1)))
        self.assertEqual(row.told("c"), formula("h", formula("f", plain(1, "d"), plain(1))))
        self.assertEqual([row.standing("b"), row.standing("c")], ["now", "now"])

    def test_a_table_without_reckoned_columns(self):
        row = Row(Table(["a"], [[], []]))
        self.assertEqual([row(("set", "a")), row(EDITION), row(PUT)], [["a"], [], ["a"]])

    def test_a_formula_of_nothing(self):
        row = Row(Table(["a"], [[("b", "f", [], "stays")], [("b", "g", [], "read")]]))
        self.assertEqual([row.told("b"), row(("set", "a")), row(PUT), row.standing("b")],
                         [formula("f"), ["a"], ["a"], "now"])
        self.assertEqual([row(EDITION), row.told("b"), row.standing("b")], [["b"], formula("g"), "now"])


class Deeds(unittest.TestCase):
    def test_put_reckons_all_that_is_kept(self):
        for held in ("follows", "stays"):
            row = Row(one_plain(held))
            self.assertEqual(row(PUT), ["a", "b"])
            self.assertEqual(row.told("b"), formula("f", plain(2)))

    def test_put_reckons_in_order(self):
        row = Row(Table(["a"], [[("b", "f", ["a"], "stays"), ("c", "g", ["b"], "stays")]]))
        row(PUT)
        self.assertEqual(row.told("c"), formula("g", formula("f", plain(2))))

    def test_set_and_each_way_of_holding(self):
        changed = {"read": ["a", "b"], "follows": ["a", "b"], "stays": ["a"]}
        for held in changed:
            row = Row(one_plain(held))
            self.assertEqual(row(("set", "a")), changed[held])
            self.assertEqual(row.told("b"), formula("f", plain(1 if held == "stays" else 2)))

    def test_set_touches_only_what_hangs_on_it(self):
        table = Table(["a", "d"], [[
            ("b", "f", ["a"], "follows"), ("c", "f", ["d"], "follows"), ("e", "f", ["c", "b"], "read"),
        ]])
        row = Row(table)
        self.assertEqual([row(("set", "a")), row(("set", "d"))], [["a", "b", "e"], ["d", "c", "e"]])

    def test_a_column_follows_through_read_ones(self):
        table = Table(["a"], [[
            ("b", "f", ["a"], "read"), ("c", "g", ["b"], "read"), ("e", "h", ["c"], "follows"),
        ]])
        row = Row(table)
        self.assertEqual(row(("set", "a")), ["a", "b", "c", "e"])
        self.assertEqual(row.told("e"), formula("h", formula("g", formula("f", plain(2)))))

    def test_a_column_does_not_follow_through_one_that_stays(self):
        table = Table(["a"], [[
            ("b", "f", ["a"], "stays"), ("c", "g", ["b"], "read"), ("e", "h", ["c"], "follows"),
            ("i", "h", ["e", "a"], "follows"),
        ]])
        row = Row(table)
        self.assertEqual(row(("set", "a")), ["a", "i"])
        self.assertEqual(row(("rewrite", "b")), ["b", "c"])
        self.assertEqual(row.told("e"), formula("h", formula("g", formula("f", plain(1)))))
        self.assertEqual(row(("rewrite", "e")), ["e"])

    def test_a_column_follows_what_was_reckoned_just_now_also_if_it_comes_out_the_same(self):
        table = Table(["a"], [[
            ("b", "f", ["a"], "stays"), ("c", "g", ["b"], "follows"), ("e", "h", ["a", "b"], "follows"),
            ("i", "u", ["e", "b"], "follows"),
        ]])
        row = Row(table)
        row(("set", "a"))
        row(("rewrite", "b"))
        self.assertEqual(row(("set", "a")), ["a", "e", "i"])
        worth = formula("h", plain(3), formula("f", plain(2)))
        self.assertEqual([row.told("e"), row.told("i")], [worth, formula("u", worth, formula("f", plain(2)))])

    def test_rewriting_reckons_one_kept_column(self):
        table = Table(["a"], [[
            ("b", "f", ["a"], "stays"), ("c", "g", ["b"], "follows"), ("e", "g", ["a"], "read"),
        ]])
        row = Row(table)
        row(("set", "a"))
        self.assertEqual(row(("rewrite", "c")), [])
        self.assertEqual(row(("rewrite", "e")), [])
        self.assertEqual(row(("rewrite", "b")), ["b"])
        self.assertEqual(row.told("c"), formula("g", formula("f", plain(1))))
        self.assertEqual(row(("rewrite", "c")), ["c"])
        self.assertEqual(row(("rewrite", "b")), [])

    def test_an_edition_leaves_what_is_kept(self):
        row = Row(one_plain("stays", "follows", "read"))
        self.assertEqual([row(EDITION), row.edition, row.told("b")], [[], 1, formula("f", plain(1))])
        self.assertEqual([row(("set", "a")), row.told("b")], [["a", "b"], formula("g", plain(2))])
        self.assertEqual([row(EDITION), row.edition, row.told("b")], [["b"], 2, formula("h", plain(2))])

    def test_only_told_worths_count_as_changed(self):
        row = Row(Table(["a"], [[("b", "f", ["a"], "read")], [("b", "f", ["a"], "follows")]]))
        self.assertEqual([row(EDITION), row.told("b")], [["b"], None])
        self.assertEqual([row(PUT), row.told("b")], [["a", "b"], formula("f", plain(2))])
        same = Row(Table(["a"], [[("b", "f", ["a"], "stays")], [("b", "f", ["a"], "read")]]))
        self.assertEqual(same(EDITION), [])


class Lacking(unittest.TestCase):
    def setUp(self):
        self.table = Table(["a"], [
            [("b", "f", ["a"], "read"), ("c", "g", ["b"], "stays"), ("e", "h", ["a"], "read")],
            [("b", "f", ["a"], "stays"), ("c", "g", ["b"], "stays"), ("e", "h", ["b", "a"], "read")],
        ])

    def test_what_is_reckoned_from_a_lacking_worth_lacks(self):
        row = Row(self.table)
        self.assertEqual(row(EDITION), ["b", "e"])
        self.assertEqual([row.told("b"), row.told("c"), row.told("e")], [None, formula("g", formula("f", plain(1))), None])
        self.assertEqual([row.standing(column) for column in "bce"], ["lacks", "now", "lacks"])
        self.assertEqual([row(("rewrite", "c")), row.told("c"), row.standing("c")], [["c"], None, "lacks"])
        self.assertEqual(row(("rewrite", "b")), ["b", "e"])
        self.assertEqual([row.standing(column) for column in "bce"], ["now", "lacks", "now"])
        self.assertEqual(row(("rewrite", "c")), ["c"])

    def test_put_leaves_nothing_lacking(self):
        row = Row(self.table)
        row(EDITION)
        self.assertEqual(row(PUT), ["a", "b", "c", "e"])
        self.assertEqual([row.standing(column) for column in "bce"], ["now"] * 3)


class KeptAgain(unittest.TestCase):
    def test_what_was_reckoned_stays_behind_a_reading_edition(self):
        row = Row(one_plain("stays", "read", "stays"))
        row(EDITION)
        self.assertEqual([row.told("b"), row(("set", "a")), row(("rewrite", "b"))],
                         [formula("g", plain(1)), ["a", "b"], []])
        self.assertEqual([row(EDITION), row.told("b"), row.standing("b")], [["b"], formula("f", plain(1)), "old"])
        self.assertEqual([row(("rewrite", "b")), row.told("b")], [["b"], formula("h", plain(2))])

    def test_put_does_not_reckon_what_is_read(self):
        row = Row(one_plain("stays", "read", "follows"))
        row(EDITION)
        row(PUT)
        row(EDITION)
        self.assertEqual([row.told("b"), row.standing("b")], [formula("f", plain(1)), "old"])
        row(("set", "a"))
        self.assertEqual([row.told("b"), row.standing("b")], [formula("h", plain(3)), "now"])

    def test_never_reckoned(self):
        row = Row(one_plain("read", "read", "stays"))
        for deed in (EDITION, PUT, ("set", "a"), EDITION):
            row(deed)
        self.assertEqual([row.told("b"), row.standing("b")], [None, "lacks"])


class TrueWorths(unittest.TestCase):
    def test_by_each_edition(self):
        table = Table(["a", "d"], [
            [("b", "f", ["a"], "stays"), ("c", "g", ["b", "d"], "stays")],
            [("b", "h", [], "read"), ("c", "g", ["d", "b"], "follows")],
        ])
        row = Row(table)
        for deed in (("set", "a"), ("set", "d"), ("set", "d")):
            row(deed)
        self.assertEqual(row.true("c", 0), formula("g", formula("f", plain(2)), plain(3, "d")))
        self.assertEqual(row.true("c", 1), formula("g", plain(3, "d"), formula("h")))
        self.assertEqual([row.true("b", 1), row.true("a", 0), row.true("a", 1)], [formula("h"), plain(2), plain(2)])
        row(EDITION)
        self.assertEqual(row.true("b", 0), formula("f", plain(2)))


class Standings(unittest.TestCase):
    def test_old_by_an_edition_ahead_at_a_moment_behind_its_time(self):
        row = Row(one_plain("stays", "read"))
        self.assertEqual([row.standing("b"), row(("set", "a")), row.standing("b")], ["now", ["a"], "old"])
        table = Table(["a"], [
            [("b", "f", ["a"], "read"), ("c", "h", ["b"], "stays")],
            [("b", "g", ["a"], "stays"), ("c", "h", ["b"], "stays")],
        ])
        row = Row(table)
        row(EDITION)
        self.assertEqual([row.standing("b"), row.standing("c")], ["lacks", "old"])
        row(PUT)
        self.assertEqual([row.standing("b"), row.standing("c")], ["now", "now"])

    def test_true_by_a_later_edition_only_is_nobodys(self):
        table = Table(["a"], [
            [("b", "f", ["a"], "stays"), ("c", "u", ["b"], "stays")],
            [("b", "g", ["a"], "stays"), ("c", "h", ["b"], "stays")],
            [("b", "f", ["a"], "stays"), ("c", "h", ["b"], "stays")],
        ])
        row = Row(table)
        row(EDITION)
        row(("rewrite", "c"))
        self.assertEqual([row.told("c"), row.standing("c")], [formula("h", formula("f", plain(1))), "nobody"])
        row(EDITION)
        self.assertEqual(row.standing("c"), "now")
        row(("set", "a"))
        self.assertEqual(row.standing("c"), "old")

    def test_values_that_never_stood_together(self):
        table = Table(["a", "d"], [[("b", "f", ["a"], "stays"), ("c", "g", ["b", "d"], "follows")]])
        row = Row(table)
        row(("set", "a"))
        self.assertEqual([row.standing("b"), row.standing("c")], ["old", "old"])
        row(("set", "d"))
        self.assertEqual([row.told("c"), row.standing("c")],
                         [formula("g", formula("f", plain(1)), plain(2, "d")), "nobody"])
        row(("rewrite", "b"))
        self.assertEqual([row.standing("b"), row.standing("c")], ["now", "nobody"])

    def test_two_values_of_one_column(self):
        table = Table(["a"], [[("b", "f", ["a"], "stays"), ("c", "g", ["a", "b"], "read")]])
        row = Row(table)
        row(("set", "a"))
        self.assertEqual([row.standing("b"), row.standing("c")], ["old", "nobody"])

    def test_a_formula_of_nothing_is_old_by_an_edition_ahead_only(self):
        table = Table(["a"], [[("b", "f", [], "stays")], [("b", "g", [], "stays")], [("b", "f", [], "stays")]])
        row = Row(table)
        found = [row.standing("b")]
        for deed in (EDITION, ("rewrite", "b"), EDITION, ("rewrite", "b")):
            row(deed)
            found.append(row.standing("b"))
        self.assertEqual(found, ["now", "old", "now", "old", "now"])


class Undo(unittest.TestCase):
    def told(self, row):
        return [row.told(column) for column in "abc"] + [row.standing("b"), row.standing("c"), row.edition, row.history]

    def test_back_through_all_deeds(self):
        table = Table(["a"], [
            [("b", "f", ["a"], "stays"), ("c", "g", ["b"], "follows")],
            [("b", "f", ["a"], "read"), ("c", "g", ["b"], "follows")],
            [("b", "h", ["a"], "stays"), ("c", "g", ["b"], "stays")],
        ])
        row = Row(table)
        before = []
        for deed in (("set", "a"), ("rewrite", "c"), EDITION, ("set", "a"), PUT, EDITION, ("rewrite", "b")):
            before.append(self.told(row))
            row(deed)
        for index in range(7, 0, -1):
            self.assertEqual(len(row), index + 1)
            self.assertIsNone(row.undo())
            self.assertEqual(self.told(row), before[index - 1])
        check_raises(self, NothingToUndo, 0, row.undo)
        self.assertEqual(self.told(row), before[0])

    def test_numbers_begin_where_they_were(self):
        row = Row(one_plain("follows"))
        row(("set", "a"))
        row.undo()
        row(("set", "a"))
        self.assertEqual([row.told("b"), row.history], [formula("f", plain(2)), [PUT, ("set", "a")]])

    def test_an_edition_taken_back_can_be_done_again(self):
        row = Row(one_plain("stays", "stays"))
        row(EDITION)
        row.undo()
        self.assertEqual([row.edition, row(EDITION), row.edition], [0, [], 1])

    def test_a_moment_taken_back_has_not_been(self):
        table = Table(["a", "d"], [[("b", "f", ["a"], "stays"), ("c", "g", ["b", "d"], "read")]])
        row = Row(table)
        for deed in (("set", "d"), ("set", "a")):
            row(deed)
        self.assertEqual(row.standing("c"), "old")
        row.undo()
        row.undo()
        row(("set", "a"))
        row(("set", "d"))
        self.assertEqual(row.standing("c"), "nobody")


class Equality(unittest.TestCase):
    def test_tables_and_histories(self):
        row, other = Row(one_plain("stays")), Row(one_plain("stays"))
        self.assertTrue(row == other)
        row(("set", "a"))
        self.assertTrue(row != other)
        other(("set", "a"))
        self.assertFalse(row != other)
        other(("rewrite", "b"))
        self.assertFalse(row == other)
        other.undo()
        self.assertTrue(row == other)

    def test_other_tables_with_the_same_worths(self):
        self.assertFalse(Row(one_plain("stays")) == Row(one_plain("follows")))

    def test_the_same_worths_by_other_histories(self):
        row, other = Row(one_plain("stays")), Row(one_plain("stays"))
        row(("rewrite", "b"))
        self.assertFalse(row == other)

    def test_however_the_row_came_to_its_history(self):
        straight, winding = Row(one_plain("stays", "read")), Row(one_plain("stays", "read"))
        for deed in (("set", "a"), EDITION):
            straight(deed)
        back, set_a = None, ("set", "a")
        for deed in (EDITION, set_a, back, back, set_a, ("rewrite", "b"), back, EDITION, EDITION, PUT, back):
            if deed is back:
                winding.undo()
            elif deed == EDITION and winding.edition == 1:
                check_raises(self, InvalidDeed, deed, winding, deed)
            else:
                winding(deed)
        self.assertEqual(winding.history, straight.history)
        self.assertTrue(winding == straight)
        self.assertFalse(winding != straight)
        self.assertEqual([winding.told("b"), winding.standing("b")], [straight.told("b"), straight.standing("b")])

    def test_several_rows_of_one_table(self):
        table = one_plain("stays", "follows")
        rows = [Row(table), Row(table), IndexedRow(table, "b", "told"), IndexedRow(table, "b", "written")]
        self.assertTrue(rows[0] == rows[1])
        rows[0](("set", "a"))
        rows[2](EDITION)
        self.assertEqual([row.history[1:] for row in rows], [[("set", "a")], [], [EDITION], []])
        self.assertEqual([row.told("a") for row in rows], [plain(2), plain(1), plain(1), plain(1)])
        self.assertEqual([row.edition for row in rows], [0, 0, 1, 0])
        self.assertFalse(rows[0] == rows[1])
        self.assertEqual(table, one_plain("stays", "follows"))

    def test_nothing_else(self):
        row = Row(one_plain("stays"))
        for other in (None, 0, [PUT], one_plain("stays"), IndexedRow(one_plain("stays"), "b", "told"), object()):
            self.assertFalse(row == other)
            self.assertFalse(other == row)
            self.assertTrue(row != other)
            self.assertIsNot(row.__eq__(other), True)


class NothingIsShared(unittest.TestCase):
    def test_what_is_told_is_new(self):
        table = Table(["a"], [[
            ("b", "f", ["a"], "stays"), ("c", "g", ["b", "a"], "follows"), ("e", "h", ["b", "c"], "read"),
            ("i", "h", ["e", "b", "c"], "stays"),
        ]])
        row = Row(table)
        for column in table.columns:
            worth = copy.deepcopy(row.told(column))
            check_new_lists(self, lambda: row.told(column))
            check_new_lists(self, lambda: row.true(column, 0))
            self.assertEqual(row.told(column), worth)
            self.assertEqual(row.standing(column), "now")
        check_new_lists(self, lambda: row.history)
        check_new_lists(self, lambda: row(PUT))
        self.assertEqual(len(row), 4)

    def test_one_kept_worth_told_by_two_columns(self):
        table = Table(["a"], [[("b", "f", ["a"], "stays"), ("c", "g", ["b"], "stays"), ("e", "h", ["b", "c"], "read")]])
        row = Row(table)
        row.told("e")[2][0][2].clear()
        row.told("b")[2].append("x")
        self.assertEqual(row.told("b"), formula("f", plain(1)))
        self.assertEqual(row.told("c"), formula("g", formula("f", plain(1))))


class Arguments(unittest.TestCase):
    def test_by_name(self):
        row = Row(table=one_plain("stays", "read"))
        self.assertEqual(row(deed=("set", "a")), ["a"])
        self.assertEqual(row.told(column="b"), formula("f", plain(1)))
        self.assertEqual(row.true(column="b", edition=1), formula("g", plain(2)))
        self.assertEqual(row.true(edition=0, column="b"), formula("f", plain(2)))
        self.assertEqual(row.true("b", edition=0), formula("f", plain(2)))
        self.assertEqual(row.standing(column="b"), "old")


class Errors(unittest.TestCase):
    def setUp(self):
        self.table = Table(["a", "d"], [[("b", "f", ["a"], "stays")], [("b", "g", ["a"], "read")]])
        self.row = Row(self.table)
        self.row(("set", "a"))

    def check(self, error, value, call, *arguments, **named):
        before = [self.row.history, self.row.edition, self.row.told("b"), len(self.row)]
        check_raises(self, error, value, call, *arguments, **named)
        self.assertEqual([self.row.history, self.row.edition, self.row.told("b"), len(self.row)], before)

    def test_deeds_that_are_none(self):
        deeds = [
            (), ("",), ("put", "a"), ("set",), ("set", "b"), ("set", "c"), ("set", "a", "d"), ("set", "a", ""),
            ("rewrite",), ("rewrite", "a"), ("rewrite", "x"), ("rewrite", "b", "b"), ("edition", "b"), ("Put",),
            ("undo",), ("put", "put", "put", "put"), ("set", "A"), ("get", "a"),
        ]
        for deed in deeds:
            with self.subTest(deed):
                self.check(InvalidDeed, deed, self.row, deed)
                self.check(InvalidDeed, deed, self.row, deed=deed)

    def test_an_edition_behind_the_last_one(self):
        self.row(EDITION)
        self.check(InvalidDeed, EDITION, self.row, EDITION)
        self.row.undo()
        self.assertEqual(self.row(EDITION), ["b"])
        only = Row(Table(["a"], [[("b", "f", [], "read")]]))
        check_raises(self, InvalidDeed, EDITION, only, EDITION)

    def test_unknown_columns(self):
        for name in ("c", "", "f", "put", "B"):
            with self.subTest(name):
                self.check(UnknownColumn, name, self.row.told, name)
                self.check(UnknownColumn, name, self.row.told, column=name)
                self.check(UnknownColumn, name, self.row.true, name, 0)
                self.check(UnknownColumn, name, self.row.standing, name)
        self.check(UnknownColumn, "a", self.row.standing, "a")
        self.check(UnknownColumn, "d", self.row.standing, column="d")

    def test_editions_that_there_are_not(self):
        for edition in (-1, 2, 3, -2, 100):
            with self.subTest(edition):
                self.check(InvalidEdition, edition, self.row.true, "b", edition)
                self.check(InvalidEdition, edition, self.row.true, "a", edition=edition)

    def test_the_column_is_checked_ahead_of_the_edition(self):
        self.check(UnknownColumn, "x", self.row.true, "x", 5)
        self.check(UnknownColumn, "", self.row.true, "", -1)

    def test_nothing_to_undo(self):
        self.row.undo()
        self.check(NothingToUndo, 0, self.row.undo)
        self.check(NothingToUndo, 0, self.row.undo)


if __name__ == "__main__":
    unittest.main()
