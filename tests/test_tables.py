import copy
import unittest

from checks import check_new_lists, check_raises, lists_in, spoil
from keptworths.errors import DoubleName, InvalidEdition, InvalidKind, InvalidName, UnknownColumn
from keptworths.tables import Table
from many_tables import random_tables

PLAIN = ["a", "d"]
EDITIONS = [
    [("b", "f", ["a", "d"], "stays"), ("c", "h", [], "read")],
    [("b", "g", ["d"], "follows"), ("c", "h", ["b", "a"], "stays")],
]
BAD_NAMES = ("", "A", "aB", "a1", "a b", " a", "a ", "abcdefghi", "a-", "~", "_", "{}")


def line(column="b", formula="f", sources=("a",), held="read"):
    return (column, formula, list(sources), held)


class Reading(unittest.TestCase):
    def setUp(self):
        self.table = Table(PLAIN, EDITIONS)

    def test_properties(self):
        self.assertEqual(self.table.plain, ["a", "d"])
        self.assertEqual(self.table.editions, EDITIONS)
        self.assertEqual(self.table.columns, ["b", "c"])

    def test_a_column_is_told_edition_by_edition(self):
        self.assertEqual(self.table["b"], [("f", ["a", "d"], "stays"), ("g", ["d"], "follows")])
        self.assertEqual(self.table["c"], [("h", [], "read"), ("h", ["b", "a"], "stays")])

    def test_unknown_columns(self):
        for name in ("a", "d", "e", "", "f", "B", "b "):
            with self.subTest(name):
                check_raises(self, UnknownColumn, name, self.table.__getitem__, name)

    def test_len_is_the_number_of_editions(self):
        self.assertEqual(len(self.table), 2)
        self.assertEqual(len(Table(["a"], [[line()]] * 8)), 8)

    def test_deeds(self):
        self.assertEqual(self.table.deeds(), [
            ("put",), ("set", "a"), ("set", "d"), ("rewrite", "b"), ("rewrite", "c"), ("edition",),
        ])
        self.assertEqual(Table(["z", "a"], [[line("k"), line("b", sources=["k"])]]).deeds(), [
            ("put",), ("set", "z"), ("set", "a"), ("rewrite", "k"), ("rewrite", "b"), ("edition",),
        ])

    def test_no_reckoned_column(self):
        table = Table(["a"], [[], []])
        self.assertEqual((table.columns, table.editions, len(table)), ([], [[], []], 2))
        self.assertEqual(table.deeds(), [("put",), ("set", "a"), ("edition",)])
        check_raises(self, UnknownColumn, "a", table.__getitem__, "a")

    def test_it_is_not_iterated_over(self):
        with self.assertRaises(TypeError):
            list(self.table)

    def test_arguments_by_name(self):
        self.assertEqual(Table(plain=PLAIN, editions=EDITIONS), self.table)
        self.assertEqual(Table(editions=EDITIONS, plain=PLAIN), self.table)
        self.assertEqual(Table(PLAIN, editions=EDITIONS), self.table)

    def test_greatest_tables(self):
        for plain, editions in random_tables(4, 30, plain=6, columns=8, editions=8, sources=6):
            table = Table(plain, editions)
            self.assertEqual((table.plain, table.editions), (plain, editions))
            self.assertEqual(table, Table(plain, editions))
            for index, column in enumerate(table.columns):
                self.assertEqual(table[column], [edition[index][1:] for edition in editions])
            self.assertEqual(len(table.deeds()), 16)

    def test_names_of_eight_letters_and_formulas_named_as_columns(self):
        table = Table(["abcdefgh"], [[line("zzzzzzzz", "abcdefgh", ["abcdefgh"])]])
        self.assertEqual(table["zzzzzzzz"], [("abcdefgh", ["abcdefgh"], "read")])
        self.assertEqual(Table(["a"], [[line("b", "b"), line("c", "a", ["b"])]]).columns, ["b", "c"])


class NothingIsKept(unittest.TestCase):
    def test_arguments_are_not_changed(self):
        plain, editions = copy.deepcopy(PLAIN), copy.deepcopy(EDITIONS)
        table = Table(plain, editions)
        table.deeds(), table.plain, table.editions, table.columns, table["b"], len(table)
        self.assertEqual((plain, editions), (PLAIN, EDITIONS))

    def test_arguments_are_not_kept(self):
        plain, editions = copy.deepcopy(PLAIN), copy.deepcopy(EDITIONS)
        table = Table(plain, editions)
        spoil(plain)
        spoil(editions)
        self.assertEqual((table.plain, table.editions), (PLAIN, EDITIONS))
        self.assertEqual(table, Table(PLAIN, EDITIONS))

    def test_one_list_handed_in_for_several_editions(self):
        sources = ["a"]
        edition = [("b", "f", sources, "read"), ("c", "f", sources, "read")]
        table = Table(["a"], [edition, edition])
        self.assertEqual(len({id(found) for found in lists_in(table.editions)}), 7)
        self.assertEqual(check_new_lists(self, lambda: table.editions), [edition, edition])

    def test_what_is_told_is_new(self):
        table = Table(PLAIN, EDITIONS)
        self.assertEqual(check_new_lists(self, lambda: table.plain), PLAIN)
        self.assertEqual(check_new_lists(self, lambda: table.editions), EDITIONS)
        self.assertEqual(check_new_lists(self, lambda: table.columns), ["b", "c"])
        self.assertEqual(check_new_lists(self, lambda: table["b"])[1], ("g", ["d"], "follows"))
        self.assertEqual(check_new_lists(self, table.deeds)[0], ("put",))
        self.assertEqual(table, Table(PLAIN, EDITIONS))


class Equality(unittest.TestCase):
    def test_same_plain_columns_and_editions(self):
        self.assertTrue(Table(PLAIN, EDITIONS) == Table(list(PLAIN), copy.deepcopy(EDITIONS)))
        self.assertFalse(Table(PLAIN, EDITIONS) != Table(PLAIN, EDITIONS))

    def test_each_part_matters_and_its_order(self):
        table = Table(["a", "d"], [[line("b", "f", ["a", "d"]), line("c", "f")]])
        others = [
            Table(["d", "a"], [[line("b", "f", ["a", "d"]), line("c", "f")]]),
            Table(["a", "d", "e"], [[line("b", "f", ["a", "d"]), line("c", "f")]]),
            Table(["a", "d"], [[line("c", "f"), line("b", "f", ["a", "d"])]]),
            Table(["a", "d"], [[line("b", "f", ["d", "a"]), line("c", "f")]]),
            Table(["a", "d"], [[line("b", "g", ["a", "d"]), line("c", "f")]]),
            Table(["a", "d"], [[line("b", "f", ["a", "d"], "stays"), line("c", "f")]]),
            Table(["a", "d"], [[line("b", "f", ["a", "d"]), line("c", "f", [])]]),
            Table(["a", "d"], [[line("b", "f", ["a", "d"])]]),
            Table(["a", "d"], [[line("b", "f", ["a", "d"]), line("c", "f")]] * 2),
        ]
        for other in others:
            self.assertFalse(table == other)
            self.assertTrue(table != other)

    def test_nothing_else_is_equal(self):
        table = Table(PLAIN, EDITIONS)
        for other in (None, 0, "plain", [], (PLAIN, EDITIONS), PLAIN, EDITIONS, object()):
            self.assertFalse(table == other)
            self.assertFalse(other == table)


class Errors(unittest.TestCase):
    def check(self, error, value, plain, editions):
        plain_before, editions_before = copy.deepcopy(plain), copy.deepcopy(editions)
        check_raises(self, error, value, Table, plain, editions)
        check_raises(self, error, value, Table, plain=plain, editions=editions)
        self.assertEqual((plain, editions), (plain_before, editions_before))

    def test_names_of_plain_columns(self):
        for name in BAD_NAMES:
            with self.subTest(name):
                self.check(InvalidName, name, [name], [[line(sources=[])]])
                self.check(InvalidName, name, ["a", name, name], [[line()]])

    def test_plain_columns_that_stood_before(self):
        self.check(DoubleName, "a", ["a", "a"], [[line()]])
        self.check(DoubleName, "d", ["a", "d", "e", "d", "a"], [[line()]])

    def test_no_edition(self):
        self.check(InvalidEdition, 0, ["a"], [])

    def test_names_of_columns_and_formulas(self):
        for name in BAD_NAMES:
            with self.subTest(name):
                self.check(InvalidName, name, ["a"], [[line(name)]])
                self.check(InvalidName, name, ["a"], [[line(), line("c", name)]])

    def test_columns_that_stood_before(self):
        self.check(DoubleName, "b", ["a"], [[line(), line("c"), line("b")]])
        self.check(DoubleName, "a", ["a"], [[line("a", sources=[])]])

    def test_sources_that_do_not_stand_ahead(self):
        for name in ("b", "c", "x", "f", "", "A b"):
            with self.subTest(name):
                self.check(UnknownColumn, name, ["a"], [[line("b", sources=["a", name]), line("c")]])

    def test_sources_that_stood_before(self):
        self.check(DoubleName, "a", ["a", "d"], [[line("b", sources=["a", "d", "a"])]])
        self.check(DoubleName, "b", ["a"], [[line(), line("c", sources=["b", "b"])]])

    def test_other_ways_of_holding(self):
        for held in ("", "Read", "reads", "kept", "stays ", "told"):
            with self.subTest(held):
                self.check(InvalidKind, held, ["a"], [[line(held=held)]])

    def test_editions_with_other_columns(self):
        two = [line("b"), line("c")]
        for other in ([line("c"), line("b")], [line("b")], two + [line("e")], [line("b"), line("e")], []):
            with self.subTest(other):
                self.check(InvalidEdition, 1, ["a"], [two, other])
                self.check(InvalidEdition, 2, ["a"], [two, two, other])

    def test_a_source_of_another_edition_only(self):
        self.check(UnknownColumn, "c", ["a"], [[line("b"), line("c")], [line("b", sources=["c"]), line("c")]])


class OrderOfErrors(unittest.TestCase):
    """Two faults at once: the one that is listed first is told."""

    def check(self, error, value, plain, editions):
        check_raises(self, error, value, Table, plain, editions)

    def test_plain_columns_one_by_one(self):
        self.check(InvalidName, "A", ["A", "A"], [])
        self.check(DoubleName, "a", ["a", "a", "A"], [])
        self.check(InvalidName, "A", ["a", "A", "a"], [])

    def test_plain_columns_ahead_of_editions(self):
        self.check(DoubleName, "a", ["a", "a"], [])
        self.check(InvalidName, "B", ["B"], [[line("C")]])

    def test_within_a_column(self):
        self.check(InvalidName, "B", ["a"], [[line("B", "F")]])
        self.check(InvalidName, "F", ["a"], [[line("a", "F")]])
        self.check(DoubleName, "a", ["a"], [[line("a", sources=["x"])]])
        self.check(UnknownColumn, "x", ["a"], [[line(sources=["x", "x"])]])
        self.check(DoubleName, "a", ["a"], [[line(sources=["a", "a", "x"])]])
        self.check(UnknownColumn, "x", ["a"], [[line(sources=["a", "x", "a"])]])
        self.check(DoubleName, "a", ["a"], [[line(sources=["a", "a"], held="no")]])
        self.check(UnknownColumn, "x", ["a"], [[line(sources=["x"], held="no")]])

    def test_column_by_column(self):
        self.check(InvalidKind, "no", ["a"], [[line(held="no"), line("C")]])
        self.check(UnknownColumn, "x", ["a"], [[line(sources=["x"]), line("b")]])
        self.check(InvalidName, "F", ["a"], [[line("b", "F"), line("c", "f", held="no")]])

    def test_edition_by_edition(self):
        two = [line("b"), line("c")]
        self.check(InvalidKind, "no", ["a"], [two, [line("c", held="no"), line("b")]])
        self.check(InvalidEdition, 1, ["a"], [two, [line("c")], [line("B")]])
        self.check(DoubleName, "c", ["a"], [two, [line("c"), line("c")]])
        self.check(InvalidName, "C", ["a"], [[line("C")], []])


if __name__ == "__main__":
    unittest.main()
