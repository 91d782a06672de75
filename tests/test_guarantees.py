"""Sentences of [10] about rows, over many tables; those about standings, indexes and alike tables stand in
test_standings.py and test_compare.py."""

import random
import unittest

from full_search import leaves
from keptworths.rows import IndexedRow, Row
from keptworths.tables import Table
from many_tables import random_history, random_tables

BOUNDS = {"plain": 2, "columns": 3, "editions": 3, "sources": 2}


def without_numbers(worth):
    if worth[0] == "plain":
        return worth[:2]
    return (worth[1], [without_numbers(source) for source in worth[2]])


def moments(table, history):
    """The row behind each part of a history, from its first put on."""
    rows = []
    for end in range(1, len(history) + 1):
        rows.append(Row(table))
        for deed in history[1:end]:
            rows[-1](deed)
    return rows


class TrueAtSomeMoment(unittest.TestCase):
    def test_by_formulas_and_pairs_of_values(self):
        """Every two plain values in a worth stood at one moment: then all of them did."""
        chance = random.Random(101)
        answers = set()
        for plain, editions in random_tables(102, 60, **BOUNDS):
            table = Table(plain, editions)
            rows = moments(table, random_history(chance, table.deeds(), 3, 12))
            stood = [[row.told(column) for column in plain] for row in rows]
            for column in table.columns:
                worth = rows[-1].told(column)
                if worth is None:
                    continue
                found = leaves(worth)
                together = all(any(one in values and other in values for values in stood)
                               for one in found for other in found)
                for edition in range(3):
                    same = without_numbers(worth) == without_numbers(rows[-1].true(column, edition))
                    was = any(row.true(column, edition) == worth for row in rows)
                    self.assertEqual(was, same and together)
                    answers.add((same, together))
        self.assertEqual(len(answers), 4)


class ToldIndexes(unittest.TestCase):
    def test_they_have_no_fault_behind_any_deed_or_undo(self):
        chance = random.Random(103)
        for plain, editions in random_tables(104, 60, **BOUNDS):
            table = Table(plain, editions)
            row = IndexedRow(table, chance.choice("cde"), "told")
            for deed in random_history(chance, table.deeds(), 3, 20)[1:]:
                row(deed)
                self.assertEqual((row.missed(), row.wrongly()), (False, False))
            while len(row) > 1:
                row.undo()
                self.assertEqual((row.missed(), row.wrongly()), (False, False))


if __name__ == "__main__":
    unittest.main()
