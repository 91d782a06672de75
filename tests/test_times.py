"""Each question of standings.py comes to an answer at the bounds of the document, and soon."""

import time
import unittest

from keptworths.standings import always_now, comes, first, first_missed, first_wrongly
from keptworths.tables import Table
from many_tables import random_tables

LONGEST = 2.0
SMALL = 0.2


def edition(*lines):
    """Lines told as `c f ab stays`; what has no source is told with a dot."""
    told = [line.split() for line in lines]
    return [(column, formula, [] if sources == "." else list(sources), held) for column, formula, sources, held in told]


# Found by going from table to table towards more states: no table is known that takes longer.
HARD = [
    [
        edition("c f ba stays", "d f c stays", "e g d read"),
        edition("c h ab stays", "d f ab stays", "e g d follows"),
        edition("c h ab stays", "d f c follows", "e g d stays"),
    ],
    [
        edition("c g ba stays", "d h c follows", "e g d read"),
        edition("c f ba stays", "d h c stays", "e g d follows"),
        edition("c f ab stays", "d h c follows", "e g d stays"),
    ],
    [
        edition("c f ba stays", "d f b stays", "e f b read"),
        edition("c f ab stays", "d f ab stays", "e f b read"),
        edition("c f ab follows", "d f ba stays", "e f dc follows"),
    ],
    [
        edition("c f ba stays", "d h ca stays", "e g . read"),
        edition("c h ab stays", "d g bc stays", "e g . read"),
        edition("c f b follows", "d f . stays", "e h db stays"),
    ],
    [
        edition("c f ab stays", "d g ca stays", "e h cd read"),
        edition("c f ab stays", "d g ca stays", "e h cd read"),
        edition("c f ab stays", "d g ca stays", "e h cd stays"),
    ],
]


def questions(table):
    """All questions of a table, as (how it is called, its arguments)."""
    yield always_now, (table,)
    for column in table.columns:
        yield comes, (table, column)
        for standing in ("now", "old", "lacks", "nobody"):
            yield first, (table, column, standing)
        for way in ("told", "written", "reckoned"):
            yield first_missed, (table, column, way)
            yield first_wrongly, (table, column, way)


def times(table):
    """How long each question takes."""
    found = []
    for question, arguments in questions(table):
        begun = time.perf_counter()
        question(*arguments)
        found.append(time.perf_counter() - begun)
    return found


class Times(unittest.TestCase):
    def check(self, made):
        longest = []
        for plain, editions in made:
            longest.append(max(times(Table(plain, editions))))
            self.assertLess(longest[-1], LONGEST, editions)
        return longest

    def test_many_tables(self):
        longest = self.check(random_tables(41, 400, plain=2, columns=3, editions=3, sources=2))
        self.assertLess(sorted(longest)[len(longest) * 9 // 10], SMALL)

    def test_columns_that_come_from_both_plain_ones_by_others(self):
        made = []
        for plain, editions in random_tables(42, 400, plain=2, columns=3, editions=3, sources=2):
            whole = [[("c", edition[0][1], ["a", "b"], edition[0][3])] + edition[1:] for edition in editions]
            last = [edition[:2] + [("e", edition[2][1], ["d", "c"], edition[2][3])] for edition in whole]
            made += [(plain, whole), (plain, last)]
        longest = self.check(made)
        self.assertLess(sorted(longest)[len(longest) * 9 // 10], SMALL)

    def test_hard_tables(self):
        self.check([(["a", "b"], editions) for editions in HARD])


if __name__ == "__main__":
    unittest.main()
