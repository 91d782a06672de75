"""The examples of the document, as they stand."""

import doctest
import unittest

ROWS = """
>>> from keptworths.rows import IndexedRow, Row
>>> from keptworths.tables import Table
>>> table = Table(["a"], [[("b", "f", ["a"], "stays")], [("b", "g", ["a"], "stays")]])
>>> row = Row(table)
>>> [row.told("b"), row.standing("b"), row(("set", "a")), row.standing("b"), row(("edition",)), row.standing("b"), row(("rewrite", "b")), row.told("b"), row.standing("b")]
[('formula', 'f', [('plain', 'a', 1)]), 'now', ['a'], 'old', [], 'old', ['b'], ('formula', 'g', [('plain', 'a', 2)]), 'now']
>>> found = IndexedRow(table, "b", "reckoned")
>>> [found(("edition",)), found(("set", "a")), found(("rewrite", "b")), found.entries(), found.missed(), found.wrongly()]
[[], ['a'], ['b'], [('formula', 'f', [('plain', 'a', 1)]), ('formula', 'g', [('plain', 'a', 2)])], False, True]
"""

STANDINGS = """
>>> from keptworths.standings import always_now, comes, first, first_missed, first_wrongly
>>> from keptworths.tables import Table
>>> table = Table(["a"], [[("b", "f", ["a"], "stays"), ("c", "h", ["a", "b"], "follows")], [("b", "g", ["a"], "stays"), ("c", "h", ["a", "b"], "follows")]])
>>> [first(table, "b", "old"), first(table, "c", "nobody"), comes(table, "b"), comes(table, "c"), always_now(table), first(table, "b", "lacks")]
[[('put',), ('set', 'a')], [('put',), ('set', 'a')], ['now', 'old'], ['now', 'old', 'nobody'], [], None]
>>> told = Table(["a"], [[("b", "f", ["a"], "read")], [("b", "f", ["a"], "follows")], [("b", "g", ["a"], "follows")]])
>>> [comes(told, "b"), first(told, "b", "lacks"), first(told, "b", "old"), first_missed(told, "b", "told"), first_missed(told, "b", "written"), first_wrongly(told, "b", "reckoned")]
[['now', 'old', 'lacks'], [('put',), ('edition',)], [('put',), ('edition',), ('put',), ('edition',)], None, [('put',), ('set', 'a')], [('put',), ('set', 'a')]]
"""

REWRITES_AND_COMPARE = """
>>> from keptworths.compare import alike, first_unlike
>>> from keptworths.rewrites import least, safe_orders, settled_at, settles, unsettled
>>> from keptworths.tables import Table
>>> table = Table(["a"], [[("b", "f", ["a"], "stays"), ("c", "h", ["b"], "stays")]])
>>> [settles(table, [("rewrite", "b")]), unsettled(table, [("rewrite", "c"), ("rewrite", "b")]), least(table), safe_orders(table), settled_at(table, 0, [("put",)])]
[False, [('put',), ('set', 'a')], [[('rewrite', 'b'), ('rewrite', 'c')]], [[('rewrite', 'b'), ('rewrite', 'c')]], True]
>>> read, kept = Table(["a"], [[("b", "f", ["a"], "read")]]), Table(["a"], [[("b", "f", ["a"], "follows")]])
>>> [alike(read, kept), first_unlike(read, Table(["a"], [[("b", "f", ["a"], "stays")]])), alike(read, Table(["a"], [[("b", "g", ["a"], "read")]])), least(read)]
[True, [('put',), ('set', 'a')], False, [[]]]
"""

TEXTS_AND_READINGS = """
>>> from keptworths.readings import read_history, read_table
>>> from keptworths.tables import Table
>>> from keptworths.texts import show_history, show_table
>>> table = Table(["a", "d"], [[("b", "f", ["a", "d"], "stays"), ("c", "h", [], "read")]])
>>> [show_table(table), show_history([("put",), ("set", "a"), ("edition",)]), read_table(show_table(table)) == table, read_history("put, rewrite b"), read_history("")]
['plain a d; b = f(a d) stays, c = h() read', 'put, set a, edition', True, [('put',), ('rewrite', 'b')], []]
"""


class Examples(unittest.TestCase):
    def check(self, text, many):
        test = doctest.DocTestParser().get_doctest(text, {}, "example", None, None)
        result = doctest.DocTestRunner(verbose=False).run(test)
        self.assertEqual((result.failed, result.attempted), (0, many))

    def test_rows(self):
        self.check(ROWS, 7)

    def test_standings(self):
        self.check(STANDINGS, 6)

    def test_rewrites_and_compare(self):
        self.check(REWRITES_AND_COMPARE, 7)

    def test_texts_and_readings(self):
        self.check(TEXTS_AND_READINGS, 5)


if __name__ == "__main__":
    unittest.main()
