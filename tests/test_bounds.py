"""Rows at the bounds of the document, against the document told once more in model.py."""

import random
import unittest

from keptworths.rows import IndexedRow, Row
from keptworths.tables import Table
from many_tables import random_history, random_tables
from model import Replay, listed

GREATER = {"plain": 6, "columns": 8, "editions": 8, "sources": 6}
LESSER = {"plain": 2, "columns": 3, "editions": 3, "sources": 2}
WAYS = ("told", "written", "reckoned")


class Walk:
    """A row that does deeds and takes some back; behind each call all that it tells is compared."""

    def __init__(self, case, plain, editions, column=None, way=None):
        self.case = case
        self.made = (plain, editions)
        self.table = Table(plain, editions)
        self.columns = plain + self.table.columns
        self.column = column
        self.way = way
        self.row = IndexedRow(self.table, column, way) if column else Row(self.table)
        self.deeds = [("put",)]
        self.compare()

    def replay(self):
        return Replay(*self.made, self.deeds, self.column)

    def do(self, deed):
        before = self.replay()
        self.deeds.append(deed)
        after = self.replay()
        changed = [column for column in self.columns if before.told(column) != after.told(column)]
        self.case.assertEqual(self.row(deed), changed)
        self.compare()

    def undo(self):
        self.deeds.pop()
        self.case.assertIsNone(self.row.undo())
        self.compare()

    def compare(self):
        replay, row, case = self.replay(), self.row, self.case
        case.assertEqual((row.history, len(row), row.edition), (self.deeds, len(self.deeds), replay.edition))
        for column in self.columns:
            case.assertEqual(row.told(column), listed(replay.told(column)))
        if self.way:
            case.assertEqual(row.entries(), [listed(entry) for entry in replay.entries[self.way]])
            case.assertEqual(row.missed(), replay.missed(self.way))
            case.assertEqual(row.wrongly(), replay.wrongly(self.way))

    def compare_truths(self):
        replay = self.replay()
        for edition in range(len(self.table)):
            for column in self.columns:
                self.case.assertEqual(self.row.true(column, edition), listed(replay.true(column, edition)))

    def compare_standings(self):
        replay = self.replay()
        for column in self.table.columns:
            self.case.assertEqual(self.row.standing(column), replay.standing(column))


class GreaterBounds(unittest.TestCase):
    def test_rows(self):
        chance = random.Random(31)
        for plain, editions in random_tables(31, 15, **GREATER):
            walk = Walk(self, plain, editions)
            for deed in random_history(chance, walk.table.deeds(), 8, 40)[1:]:
                walk.do(deed)
            walk.compare_truths()
            while len(walk.deeds) > 1:
                walk.undo()

    def test_indexed_rows(self):
        chance = random.Random(32)
        for index, (plain, editions) in enumerate(random_tables(32, 24, **GREATER)):
            walk = Walk(self, plain, editions, chance.choice("cdefghij"), WAYS[index % 3])
            for deed in random_history(chance, walk.table.deeds(), 8, 40)[1:]:
                walk.do(deed)
            while len(walk.deeds) > 1:
                walk.undo()

    def test_two_hundred_calls(self):
        chance = random.Random(33)
        for plain, editions in random_tables(33, 3, **GREATER):
            walk = Walk(self, plain, editions, "j", "reckoned")
            last = walk.table.deeds()[-1]
            for _ in range(200):
                deed = chance.choice(walk.table.deeds())
                can = deed != last or walk.row.edition < 7
                if len(walk.deeds) == 40 or len(walk.deeds) > 1 and chance.random() < 0.3:
                    walk.undo()
                elif can:
                    walk.do(deed)

    def test_the_longest_worths(self):
        """Each column has the six things just ahead of it as its sources."""
        plain, columns = list("abklmn"), list("cdefghij")
        ahead = plain + columns
        line = [(column, "f", ahead[at:at + 6]) for at, column in enumerate(columns)]
        for held in ("read", "follows", "stays"):
            editions = [[(*rest, held) for rest in line]] * 8
            walk = Walk(self, plain, editions)
            walk.do(("set", "n"))
            walk.do(("edition",))
            walk.compare_truths()
            self.assertEqual(walk.row(("set", "n")), ["n"] + (columns if held != "stays" else []))


class LesserBounds(unittest.TestCase):
    def test_rows_and_their_standings(self):
        chance = random.Random(34)
        seen = set()
        for plain, editions in random_tables(34, 60, **LESSER):
            walk = Walk(self, plain, editions)
            for deed in random_history(chance, walk.table.deeds(), 3, 40)[1:]:
                walk.do(deed)
                walk.compare_standings()
                seen.update(walk.row.standing(column) for column in walk.table.columns)
            walk.compare_truths()
            for _ in range(30):
                walk.undo()
                walk.compare_standings()
        self.assertEqual(seen, {"now", "old", "lacks", "nobody"})

    def test_indexed_rows(self):
        chance = random.Random(35)
        faults = set()
        for plain, editions in random_tables(35, 60, **LESSER):
            for way in WAYS:
                walk = Walk(self, plain, editions, chance.choice("cde"), way)
                for deed in random_history(chance, walk.table.deeds(), 3, 20)[1:]:
                    walk.do(deed)
                    faults.add((way, walk.row.missed(), walk.row.wrongly()))
                while len(walk.deeds) > 1:
                    walk.undo()
        self.assertIn(("told", False, False), faults)
        for way in WAYS[1:]:
            self.assertLessEqual({(way, False, False), (way, False, True), (way, True, True)}, faults)
        self.assertEqual([fault for fault in faults if fault[0] == "told" and fault != ("told", False, False)], [])


if __name__ == "__main__":
    unittest.main()
