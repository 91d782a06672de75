"""The searches of standings.py against searches that know nothing of how those save work."""

import itertools
import unittest

from full_search import State, search
from keptworths.standings import always_now, comes, first, first_missed, first_wrongly
from keptworths.tables import Table
from many_tables import random_tables
from plain_search import STANDINGS, WAYS, first_faults, first_standings

MANY_STATES = 1500

TRICKY = [
    # What e has from d by the second edition hangs on c, which is no source of e by the first one.
    (["a"], [
        [("c", "h", ["a"], "stays"), ("d", "g", ["c"], "stays"), ("e", "f", ["a"], "read")],
        [("c", "h", ["a"], "stays"), ("d", "g", ["a"], "stays"), ("e", "u", ["d"], "read")],
    ]),
    # By the second edition, e can be told as what is a true worth of d, but never one of e.
    (["a", "b"], [
        [("c", "u", ["a", "b"], "read"), ("d", "u", ["a", "b"], "stays"), ("e", "u", ["a", "b"], "read")],
        [("c", "u", ["a", "b"], "read"), ("d", "u", ["a", "c"], "stays"), ("e", "u", ["a", "d"], "read")],
        [("c", "u", ["a", "b"], "read"), ("d", "u", ["a", "c"], "stays"), ("e", "u", ["a", "d"], "read")],
    ]),
    # Plain columns and formulas have the same names, and formulas have no sources.
    (["a", "b"], [
        [("c", "a", [], "stays"), ("d", "a", ["a"], "read"), ("e", "b", ["c", "d"], "follows")],
        [("c", "a", ["a"], "stays"), ("d", "a", [], "stays"), ("e", "b", ["d", "c"], "follows")],
    ]),
    # What is read changes in two editions, and is kept again by the last one.
    (["a", "b"], [
        [("c", "f", ["a", "b"], "follows"), ("d", "g", ["c"], "stays")],
        [("c", "f", ["a", "b"], "read"), ("d", "g", ["c"], "read")],
        [("c", "f", ["a", "b"], "stays"), ("d", "g", ["c"], "stays")],
    ]),
]


def small_tables():
    """Tables with short histories that are not too many to go through, and the length of these."""
    made = [(8, table) for table in random_tables(11, 12, plain=1, columns=1, editions=3, sources=1)]
    made += [(6, table) for table in random_tables(12, 25, plain=1, columns=2, editions=3, sources=2)]
    made += [(5, table) for table in random_tables(13, 25, plain=2, columns=2, editions=2, sources=2)]
    made += [(4, table) for table in random_tables(14, 80, plain=2, columns=3, editions=3, sources=2)]
    made += [(5, table) for table in random_tables(15, 25, plain=1, columns=3, editions=2, sources=2)]
    made += [(4, table) for table in random_tables(16, 15, plain=3, columns=3, editions=2, sources=3)]
    made += [(5, table) for table in TRICKY]
    return [(longest, Table(plain, editions)) for longest, (plain, editions) in made]


def one_column_tables():
    """All tables with one column and two editions, of which the second one can be any."""
    lines = itertools.product("uv", ([], ["a"]), ("read", "follows", "stays"))
    for (sources, held), line in itertools.product(itertools.product(([], ["a"]), ("read", "follows", "stays")), lines):
        yield Table(["a"], [[("c", "u", sources, held)], [("c",) + line]])


class AgainstPlainSearch(unittest.TestCase):
    def check(self, table, longest):
        found = first_standings(table, longest)
        for column in table.columns:
            for standing in STANDINGS:
                self.agree(first(table, column, standing), found.get((column, standing)), longest)
            known = [standing for standing in ("now", "old", "lacks", "nobody") if (column, standing) in found]
            self.assertLessEqual(set(known), set(comes(table, column)))
            self.assertFalse(len(known) > 1 and column in always_now(table))
            for way in WAYS:
                missed, wrongly = first_faults(table, column, way, longest)
                self.agree(first_missed(table, column, way), missed, longest)
                self.agree(first_wrongly(table, column, way), wrongly, longest)

    def agree(self, told, plain, longest):
        self.assertEqual(told if told and len(told) <= longest else None, plain)

    def test_many_small_tables(self):
        for longest, table in small_tables():
            with self.subTest((table.plain, table.editions)):
                self.check(table, longest)

    def test_all_tables_of_one_column_and_two_editions(self):
        for table in one_column_tables():
            with self.subTest(table.editions):
                self.check(table, 6)


class AgainstFullSearch(unittest.TestCase):
    """Here it is also certain, where the full search ends by itself, that there is none if none is told."""

    def agree(self, told, found, bound):
        if bound is None or found is not None and len(found) <= bound:
            self.assertEqual(told, found)
        else:
            self.assertTrue(told is None or len(told) > bound)

    def check_standings(self, plain, editions):
        table = Table(plain, editions)

        def standings(state):
            return [(column, state.standing(column)) for column in table.columns]

        found, bound = search(State(plain, editions), table.deeds(), standings, [None], MANY_STATES)
        for column in table.columns:
            for standing in STANDINGS:
                self.agree(first(table, column, standing), found.get((column, standing)), bound)
        return bound is None

    def check_faults(self, plain, editions):
        table = Table(plain, editions)
        ended = 0
        for column in table.columns:
            for way in WAYS:
                for name, told in (("missed", first_missed), ("wrongly", first_wrongly)):
                    def fault(state):
                        return [name] if getattr(state, name)(way) else []

                    start = State(plain, editions, column)
                    found, bound = search(start, table.deeds(), fault, [name], MANY_STATES // 3, way)
                    self.agree(told(table, column, way), found.get(name), bound)
                    ended += bound is None
        return ended

    def test_standings(self):
        made = TRICKY + random_tables(21, 40, plain=1, columns=3, editions=3, sources=2)
        made += random_tables(22, 25, plain=2, columns=3, editions=3, sources=2)
        made += random_tables(25, 5, plain=3, columns=3, editions=2, sources=3)
        ended = 0
        for plain, editions in made:
            with self.subTest((plain, editions)):
                ended += self.check_standings(plain, editions)
        self.assertGreater(ended, len(made) // 2)

    def test_faults(self):
        made = TRICKY + random_tables(23, 15, plain=1, columns=3, editions=3, sources=2)
        made += random_tables(24, 10, plain=2, columns=3, editions=3, sources=2)
        ended = 0
        for plain, editions in made:
            with self.subTest((plain, editions)):
                ended += self.check_faults(plain, editions)
        self.assertGreater(ended, len(made) * 9)


if __name__ == "__main__":
    unittest.main()
