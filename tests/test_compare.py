import random
import unittest

from checks import b_column, check_new_lists, check_raises, edition
from full_search import Pair, State, search
from keptworths.compare import alike, first_unlike
from keptworths.errors import UnlikeTables
from keptworths.rewrites import least, safe_orders, settled_at, settles, unsettled
from keptworths.rows import Row
from keptworths.standings import always_now, comes
from keptworths.tables import Table
from many_tables import random_history, random_pairs, random_tables
from plain_search import first_unlike_rows

EDITION = ("edition",)
PUT = ("put",)
SET = ("set", "a")
SMALL = {"plain": 1, "columns": 3, "editions": 3, "sources": 2}
GREAT = {"plain": 2, "columns": 3, "editions": 3, "sources": 2}


def all_read(table):
    return Table(table.plain, [[line[:3] + ("read",) for line in lines] for lines in table.editions])


class Compared(unittest.TestCase):
    def check(self, one, other, expected):
        for tables in ((one, other), (other, one)):
            self.assertEqual(first_unlike(*tables), expected)
            self.assertIs(alike(*tables), expected is None)


class HeldOtherwise(Compared):
    def test_one_edition(self):
        for held, unlike in (("read", None), ("follows", None), ("stays", [PUT, SET])):
            self.check(b_column(("f", "read")), b_column(("f", held)), unlike)
            self.check(b_column(("f", held)), b_column(("f", held)), None)
        self.check(b_column(("f", "follows")), b_column(("f", "stays")), [PUT, SET])

    def test_what_hangs_on_no_plain_column(self):
        for held in ("read", "follows", "stays"):
            self.check(Table(["a"], [edition("b f . read")]), Table(["a"], [edition(f"b f . {held}")]), None)

    def test_kept_behind_an_edition(self):
        read = b_column(("f", "read"), ("g", "read"))
        for held in ("follows", "stays"):
            self.check(read, b_column(("f", "read"), ("g", held)), [PUT, EDITION])
        self.check(read, b_column(("f", "follows"), ("g", "follows")), [PUT, EDITION])
        self.check(read, b_column(("f", "follows"), ("g", "read")), None)

    def test_what_lacks_in_one_alone(self):
        one = b_column(("f", "read"), ("f", "stays"))
        self.check(one, b_column(("f", "follows"), ("f", "stays")), [PUT, EDITION])
        self.check(one, b_column(("f", "read"), ("f", "follows")), [PUT, EDITION, SET])
        self.check(one, b_column(("f", "read"), ("f", "stays")), None)

    def test_what_is_read_now_and_was_kept(self):
        one = b_column(("f", "stays"), ("f", "read"), ("f", "stays"))
        self.check(one, b_column(("f", "stays"), ("f", "stays"), ("f", "stays")), [PUT, SET, EDITION])
        one = b_column(("f", "follows"), ("f", "read"), ("f", "follows"))
        other = b_column(("f", "follows"), ("f", "follows"), ("f", "follows"))
        self.check(one, other, [PUT, EDITION, PUT, EDITION])
        one = b_column(("f", "follows"), ("g", "read"), ("g", "follows"))
        other = b_column(("f", "read"), ("g", "read"), ("g", "follows"))
        self.check(one, other, [PUT, EDITION, EDITION])

    def test_through_other_columns(self):
        one = Table(["a"], [edition("b f a stays", "c g b follows", "e h c read")])
        other = Table(["a"], [edition("b f a stays", "c g b read", "e h c read")])
        self.check(one, other, [PUT, SET, ("rewrite", "b")])
        one = Table(["a", "d"], [edition("b f a follows", "c g bd follows")])
        other = Table(["a", "d"], [edition("b f a read", "c g bd follows")])
        self.check(one, other, None)

    def test_the_first_history_is_told(self):
        one = Table(["a", "d"], [edition("b f d read", "c f a read")])
        self.check(one, Table(["a", "d"], [edition("b f d stays", "c f a stays")]), [PUT, ("set", "a")])
        self.check(one, Table(["a", "d"], [edition("b f d stays", "c f a read")]), [PUT, ("set", "d")])
        one = Table(["a"], [edition("b f a stays"), edition("b g a read")])
        self.check(one, Table(["a"], [edition("b f a stays"), edition("b g a follows")]), [PUT, EDITION])
        self.check(one, Table(["a"], [edition("b f a follows"), edition("b g a follows")]), [PUT, SET])


class OtherFormulas(Compared):
    def test_other_names_and_sources(self):
        one = Table(["a", "d"], [edition("b f ad read")])
        for line in ("b g ad read", "b f da read", "b f a read", "b f d read", "b f . read"):
            self.check(one, Table(["a", "d"], [edition(line)]), [PUT])

    def test_by_a_later_edition(self):
        self.check(b_column(("f", "read"), ("g", "read")), b_column(("f", "read"), ("h", "read")), [PUT, EDITION])
        one = b_column(("f", "stays"), ("g", "stays"))
        self.check(one, b_column(("f", "stays"), ("h", "stays")), [PUT, EDITION, PUT])
        self.check(
            b_column(("f", "stays"), ("f", "stays"), ("g", "follows")),
            b_column(("f", "stays"), ("f", "stays"), ("h", "follows")),
            [PUT, EDITION, EDITION, PUT],
        )

    def test_other_sources_with_the_same_worth(self):
        for held, unlike in (("read", None), ("follows", None), ("stays", [PUT, SET, ("rewrite", "b")])):
            lines = [f"b f a {held}", f"e f a {held}"]
            one = Table(["a"], [edition(*lines, "c g b read")])
            self.check(one, Table(["a"], [edition(*lines, "c g e read")]), unlike)

    def test_other_sources_that_have_both_passed(self):
        lines = ["b f a stays", "e f a stays"]
        one = Table(["a"], [edition(*lines, "c g ba follows")])
        self.check(one, Table(["a"], [edition(*lines, "c g ea follows")]), [PUT, SET, ("rewrite", "b"), SET])

    def test_other_sources_whose_worths_an_elder_edition_left(self):
        first, lines = edition("b f . stays", "e g . stays", "c h be stays"), ["b u . stays", "e u . stays"]
        one = Table(["a"], [first, edition(*lines, "c h be stays")])
        other = Table(["a"], [first, edition(*lines, "c h eb stays")])
        self.check(one, other, [PUT, EDITION, ("rewrite", "c")])

    def test_a_formula_that_is_told_late(self):
        one = Table(["a"], [edition("b f a read"), edition("b f a stays")])
        self.check(one, Table(["a"], [edition("b f a read"), edition("b g a stays")]), [PUT, EDITION, PUT])

    def test_a_formula_named_as_a_column(self):
        one = Table(["a"], [edition("b a . read", "c f b read")])
        self.check(one, Table(["a"], [edition("b a a read", "c f a read")]), [PUT])
        self.check(one, Table(["a"], [edition("b b . read", "c f b read")]), [PUT])
        self.check(one, Table(["a"], [edition("b a . stays", "c f b follows")]), None)

    def test_no_reckoned_column(self):
        self.check(Table(["a"], [[], []]), Table(["a"], [[], []]), None)


class AgainstSearches(Compared):
    """The answers are those of searches that know nothing of how the one of compare.py saves work."""

    def pairs(self, seed, many):
        """Tables that are unlike in a little, or in nothing."""
        chance = random.Random(seed)
        made = random_pairs(seed, many, 0.2, **SMALL) + random_pairs(seed + 1, many, 0.2, **GREAT)
        made += random_pairs(seed + 2, many, 0, **SMALL)
        for plain, editions, others in made[::3]:
            at, index = chance.randrange(len(others)), chance.randrange(len(others[0]))
            column, formula, sources, held = others[at][index]
            others[at][index] = (column, formula, sources[::-1], chance.choice(("read", held, "stays")))
        return made

    def test_plain_search(self):
        longest = 4
        for plain, editions, others in self.pairs(71, 25):
            one, other = Table(plain, editions), Table(plain, others)
            found = first_unlike_rows(one, other, longest)
            told = first_unlike(one, other)
            self.assertEqual(told if told and len(told) <= longest else None, found)

    def test_full_search(self):
        ended, lengths = 0, set()
        for plain, editions, others in self.pairs(74, 30):
            one, other = Table(plain, editions), Table(plain, others)
            start = Pair(State(plain, editions), State(plain, others))
            found, bound = search(start, one.deeds(), lambda pair: [True] if pair.is_unlike() else [], [True], 400)
            if bound is None:
                ended += 1
                self.check(one, other, found.get(True))
                lengths.add(len(found.get(True, [])))
            else:
                told = first_unlike(one, other)
                self.assertTrue(told is None or len(told) > bound)
        self.assertGreater(ended, 75)
        self.assertLessEqual({0, 2, 3, 4}, lengths)

    def test_long_histories_of_alike_tables(self):
        chance = random.Random(77)
        many = 0
        for plain, editions, others in random_pairs(78, 150, 0.3, **GREAT):
            one, other = Table(plain, editions), Table(plain, others)
            if editions == others or not alike(one, other):
                continue
            many += 1
            rows = Row(one), Row(other)
            for deed in random_history(chance, one.deeds(), 3, 40)[1:]:
                self.assertEqual(rows[0](deed), rows[1](deed))
                for column in one.columns:
                    self.assertEqual(rows[0].told(column), rows[1].told(column))
        self.assertGreater(many, 10)


class WhatIsGuaranteed(Compared):
    """What [10] says of alike tables."""

    def test_alike_tables_have_the_same_standings_and_are_settled_alike(self):
        chance = random.Random(81)
        many = 0
        for plain, editions, others in random_pairs(82, 200, 0.25, **GREAT) + random_pairs(87, 200, 0.2, **SMALL):
            one, other = Table(plain, editions), Table(plain, others)
            if editions == others or not alike(one, other):
                continue
            many += 1
            self.assertEqual([comes(one, column) for column in "cde"], [comes(other, column) for column in "cde"])
            self.assertEqual(always_now(one), always_now(other))
            lists = [[], [PUT]] + least(one) + safe_orders(one)
            lists += [[chance.choice(one.deeds()[:-1]) for _ in range(4)] for _ in range(5)]
            for deeds in lists:
                self.assertEqual(settles(one, deeds), settles(other, deeds))
                self.assertEqual(unsettled(one, deeds), unsettled(other, deeds))
                at = [[settled_at(table, number, deeds) for number in range(3)] for table in (one, other)]
                self.assertEqual(at[0], at[1])
            rows = Row(one), Row(other)
            for deed in random_history(chance, one.deeds(), 3, 12)[1:]:
                for row in rows:
                    row(deed)
                self.assertEqual(*[[row.standing(column) for column in "cde"] for row in rows])
        self.assertGreater(many, 15)

    def test_a_table_beside_the_one_whose_columns_are_all_read(self):
        tables = [Table(*made) for made in random_tables(83, 60, **GREAT) + random_tables(84, 40, **SMALL)]
        tables += [b_column(("f", "follows")), b_column(("f", "follows"), ("f", "follows")), b_column(("f", "read"))]
        answers = set()
        for table in tables:
            told = unsettled(table, [])
            self.check(table, all_read(table), told)
            answers.add(told is None)
            self.assertIs(alike(table, all_read(table)), always_now(table) == table.columns)
        self.assertEqual(answers, {True, False})

    def test_behind_the_told_history_a_worth_is_unlike(self):
        for plain, editions, others in random_pairs(85, 80, 0.3, **GREAT):
            one, other = Table(plain, editions), Table(plain, others)
            history = first_unlike(one, other)
            if history:
                rows = Row(one), Row(other)
                for deed in history[1:]:
                    self.assertEqual(*[[row.told(column) for column in "cde"] for row in rows])
                    for row in rows:
                        row(deed)
                self.assertNotEqual(*[[row.told(column) for column in "cde"] for row in rows])

    def test_a_table_is_alike_to_itself_and_alike_tables_to_the_same_ones(self):
        pairs = random_pairs(86, 60, 0.2, **SMALL)
        for plain, editions, others in pairs:
            one, other, read = Table(plain, editions), Table(plain, others), all_read(Table(plain, editions))
            self.check(one, one, None)
            self.check(one, Table(plain, editions), None)
            if alike(one, other):
                self.assertEqual(first_unlike(one, read), first_unlike(other, read))


class Arguments(unittest.TestCase):
    def setUp(self):
        self.one, self.other = b_column(("f", "read")), b_column(("f", "stays"))

    def test_by_name(self):
        self.assertIs(alike(one=self.one, other=self.other), False)
        self.assertEqual(first_unlike(other=self.other, one=self.one), [PUT, SET])

    def test_what_is_told_is_new(self):
        check_new_lists(self, lambda: first_unlike(self.one, self.other))

    def test_asked_again(self):
        told = [first_unlike(self.one, self.other), alike(self.one, self.one), first_unlike(self.one, self.other)]
        self.assertEqual(told, [[PUT, SET], True, [PUT, SET]])
        self.assertEqual(self.one, b_column(("f", "read")))


class Errors(unittest.TestCase):
    def check(self, one, other):
        for tables in ((one, other), (other, one)):
            value = tuple(table.plain + table.columns for table in tables)
            for call in (alike, first_unlike):
                check_raises(self, UnlikeTables, value, call, *tables)
                check_raises(self, UnlikeTables, value, call, one=tables[0], other=tables[1])

    def test_other_names(self):
        table = Table(["a"], [edition("b f a read")])
        self.check(table, Table(["a"], [edition("c f a read")]))
        self.check(table, Table(["d"], [edition("b f d read")]))
        self.check(table, Table(["a"], [edition("b f a read", "c f a read")]))
        self.check(table, Table(["a", "d"], [edition("b f a read")]))
        self.check(table, Table(["a"], [[]]))

    def test_another_order(self):
        self.check(Table(["a", "d"], [edition("b f a read")]), Table(["d", "a"], [edition("b f a read")]))
        lines = edition("b f a read", "c f a read")
        self.check(Table(["a"], [lines]), Table(["a"], [lines[::-1]]))

    def test_the_same_names_but_others_are_plain(self):
        self.check(Table(["a", "b"], [[]]), Table(["a"], [edition("b f a read")]))

    def test_another_number_of_editions(self):
        lines = edition("b f a read")
        self.check(Table(["a"], [lines]), Table(["a"], [lines, lines]))
        self.check(Table(["a"], [lines] * 3), Table(["a"], [lines] * 2))

    def test_its_lists_are_new(self):
        one, other = Table(["a"], [edition("b f a read")]), Table(["a"], [edition("b f a read")] * 2)

        def tell():
            with self.assertRaises(UnlikeTables) as caught:
                first_unlike(one, other)
            return caught.exception.value

        self.assertEqual(check_new_lists(self, tell), (["a", "b"], ["a", "b"]))
        self.assertEqual((one.plain, one.columns), (["a"], ["b"]))


if __name__ == "__main__":
    unittest.main()
