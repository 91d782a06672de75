"""Each question about all histories comes to an answer at the bounds of the document, and soon."""

import time
import unittest

from checks import edition
from keptworths.compare import alike
from keptworths.rewrites import least, safe_orders, settles, unsettled
from keptworths.standings import always_now, comes, first, first_missed, first_wrongly
from keptworths.tables import Table
from many_tables import random_pairs, random_tables

LONGEST = 2.0
SMALL = 0.2


# Found by going from table to table towards more states: no table is known that takes longer.
HARD = [
    [
        edition("c f ba stays", "d f c stays", "e g d read"),
        edition("c h ab stays", "d f ab stays", "e g d follows"),
        edition("c h ab stays", "d f c follows", "e g d stays"),
    ],
    [
        edition("c g ba stays", "d h c follows", "e g d read"),
        edition("c f ba stays", "d h c stays", "e g d follows"),
        edition("c f ab stays", "d h c follows", "e g d stays"),
    ],
    [
        edition("c f ba stays", "d f b stays", "e f b read"),
        edition("c f ab stays", "d f ab stays", "e f b read"),
        edition("c f ab follows", "d f ba stays", "e f dc follows"),
    ],
    [
        edition("c f ba stays", "d h ca stays", "e g . read"),
        edition("c h ab stays", "d g bc stays", "e g . read"),
        edition("c f b follows", "d f . stays", "e h db stays"),
    ],
    [
        edition("c f ab stays", "d g ca stays", "e h cd read"),
        edition("c f ab stays", "d g ca stays", "e h cd read"),
        edition("c f ab stays", "d g ca stays", "e h cd stays"),
    ],
]

# Found likewise, towards more states of two rows.
HARD_BESIDE_THEMSELVES = [
    [
        edition("c v b stays", "d u bc follows", "e u ba stays"),
        edition("c u ba stays", "d v cb follows", "e v cd follows"),
        edition("c v ab stays", "d v c follows", "e u dc follows"),
    ],
    [
        edition("c u b stays", "d v bc follows", "e w . read"),
        edition("c u ba stays", "d u cb follows", "e v cd follows"),
        edition("c u a stays", "d v cb follows", "e u dc stays"),
    ],
]


def questions(table):
    """All questions of a table, as (how it is called, its arguments)."""
    yield always_now, (table,)
    for column in table.columns:
        yield comes, (table, column)
        for standing in ("now", "old", "lacks", "nobody"):
            yield first, (table, column, standing)
        for way in ("told", "written", "reckoned"):
            yield first_missed, (table, column, way)
            yield first_wrongly, (table, column, way)
    yield unsettled, (table, [])
    yield settles, (table, table.deeds()[:-1] * 2)
    yield least, (table,)
    yield safe_orders, (table,)
    yield alike, (table, table)


def time_of(question, *arguments):
    """How long a question takes."""
    begun = time.perf_counter()
    question(*arguments)
    return time.perf_counter() - begun


class Times(unittest.TestCase):
    def check(self, made):
        longest = []
        for plain, editions in made:
            table = Table(plain, editions)
            longest.append(max(time_of(question, *arguments) for question, arguments in questions(table)))
            self.assertLess(longest[-1], LONGEST, editions)
        return longest

    def test_many_tables(self):
        longest = self.check(random_tables(41, 150, plain=2, columns=3, editions=3, sources=2))
        self.assertLess(sorted(longest)[len(longest) * 9 // 10], SMALL)

    def test_columns_that_come_from_both_plain_ones_by_others(self):
        made = []
        for plain, editions in random_tables(42, 150, plain=2, columns=3, editions=3, sources=2):
            whole = [[("c", edition[0][1], ["a", "b"], edition[0][3])] + edition[1:] for edition in editions]
            last = [edition[:2] + [("e", edition[2][1], ["d", "c"], edition[2][3])] for edition in whole]
            made += [(plain, whole), (plain, last)]
        longest = self.check(made)
        self.assertLess(sorted(longest)[len(longest) * 9 // 10], SMALL)

    def test_hard_tables(self):
        self.check([(["a", "b"], editions) for editions in HARD + HARD_BESIDE_THEMSELVES])

    def test_two_tables(self):
        for plain, editions, others in random_pairs(43, 300, 0.1, plain=2, columns=3, editions=3, sources=2):
            self.assertLess(time_of(alike, Table(plain, editions), Table(plain, others)), LONGEST, (editions, others))


if __name__ == "__main__":
    unittest.main()
