import copy
import itertools
import random
import unittest

from checks import b_column, check_new_lists, check_raises, edition
from full_search import State, search
from keptworths.errors import InvalidDeed, InvalidEdition
from keptworths.rewrites import least, safe_orders, settled_at, settles, unsettled
from keptworths.rows import Row
from keptworths.standings import always_now, first
from keptworths.tables import Table
from many_tables import random_tables
from plain_search import are_now, unsettled_rows

EDITION = ("edition",)
PUT = ("put",)
SET = ("set", "a")


def rewrites(columns):
    return [("rewrite", column) for column in columns]


def chain(*held):
    """One edition with the columns b, c, e .., each of them a formula of the one ahead."""
    columns = "abcefg"[:len(held) + 1]
    return Table(["a"], [[(columns[at + 1], "f", [columns[at]], word) for at, word in enumerate(held)]])


class Settles(unittest.TestCase):
    def check(self, table, deeds, expected):
        self.assertEqual(unsettled(table, deeds), expected)
        self.assertIs(settles(table, deeds), expected is None)

    def test_no_deeds(self):
        self.check(chain("read", "follows", "read"), [], None)
        self.check(chain("read", "stays", "read"), [], [PUT, SET])
        self.check(Table(["a"], [[], []]), [], None)
        self.check(b_column(("f", "follows"), ("f", "follows")), [], None)
        self.check(b_column(("f", "follows"), ("g", "follows")), [], [PUT, EDITION])
        self.check(b_column(("f", "read"), ("g", "read")), [], None)
        self.check(b_column(("f", "read"), ("f", "follows")), [], [PUT, EDITION])

    def test_rewrites_in_order_and_out_of_it(self):
        table = chain("stays", "stays")
        self.check(table, rewrites("bc"), None)
        self.check(table, rewrites("cbc"), None)
        self.check(table, rewrites("cb"), [PUT, SET])
        self.check(table, rewrites("b"), [PUT, SET])
        self.check(table, rewrites("c"), [PUT, SET])

    def test_put_makes_all_true(self):
        table = Table(["a"], [
            edition("b f a stays", "c g b read"), edition("b h a stays", "c g b stays"),
        ])
        self.check(table, [PUT], None)
        self.check(table, [SET, PUT], None)
        self.check(table, [PUT, SET], [PUT])
        self.check(table, [PUT, SET, ("rewrite", "c"), ("rewrite", "b")], [PUT, EDITION])
        self.check(table, [PUT, SET, ("rewrite", "b")], [PUT, EDITION])
        self.check(table, [PUT, SET, ("rewrite", "b"), ("rewrite", "c")], None)

    def test_a_set_makes_true_what_follows(self):
        table = Table(["a", "d"], [edition("b f a follows"), edition("b g a follows")])
        self.check(table, [SET], None)
        self.check(table, [("set", "d")], [PUT, EDITION])
        self.check(table, [("set", "d"), SET], None)

    def test_the_first_history_is_told(self):
        table = Table(["a", "d"], [edition("b f d stays"), edition("b g ad stays")])
        self.check(table, [], [PUT, ("set", "d")])
        self.check(table, [("rewrite", "b"), SET], [PUT, EDITION])
        table = b_column(("f", "read"), ("f", "follows"), ("f", "stays"))
        self.check(table, [], [PUT, EDITION])
        self.check(table, [SET], [PUT, EDITION, EDITION])
        self.check(table, [SET, ("rewrite", "b")], None)

    def test_a_rewriting_that_spoils(self):
        """What is "now" is rewritten from what lacks, or is old."""
        table = Table(["a"], [
            edition("b f a read", "c g b stays"), edition("b f a stays", "c g b stays"),
        ])
        self.check(table, rewrites("cb"), [PUT, EDITION])
        self.assertFalse(settled_at(table, 1, rewrites("cb")))
        self.assertTrue(settled_at(table, 1, rewrites("bc")))

    def test_worths_of_elder_editions_that_are_true_again(self):
        table = b_column(("f", "stays"), ("g", "stays"), ("f", "stays"))
        self.check(table, [], [PUT, SET])
        self.assertEqual(first(table, "b", "old"), [PUT, SET])
        table = Table(["a"], [[("b", formula, [], "stays")] for formula in "fgf"])
        self.check(table, [], [PUT, EDITION])
        self.assertFalse(settled_at(table, 2, []))
        self.assertTrue(settled_at(table, 0, []))

    def test_many_deeds(self):
        table = chain("stays", "stays", "stays")
        self.check(table, [SET, PUT] * 5 + rewrites("be"), None)
        self.check(table, [PUT, SET] * 5 + rewrites("be"), [PUT])


class SettledAt(unittest.TestCase):
    def test_each_edition_by_itself(self):
        table = b_column(("f", "read"), ("f", "follows"), ("f", "stays"))
        cases = [
            ([], [True, False, False]), ([SET], [True, True, False]), ([PUT], [True] * 3),
            (rewrites("b"), [True] * 3), ([PUT, SET], [True, True, False]),
        ]
        for deeds, expected in cases:
            self.assertEqual([settled_at(table, edition, deeds) for edition in range(3)], expected)
            self.assertIs(settles(table, deeds), all(expected))

    def test_what_an_elder_edition_left(self):
        table = b_column(("f", "stays"), ("f", "read"))
        self.assertEqual([settled_at(table, edition, []) for edition in (0, 1)], [False, True])
        table = b_column(("f", "stays"), ("f", "follows"))
        self.assertEqual([settled_at(table, edition, []) for edition in (0, 1)], [False, False])
        table = b_column(("f", "follows"), ("f", "stays"))
        self.assertEqual([settled_at(table, edition, []) for edition in (0, 1)], [True, False])


class Least(unittest.TestCase):
    def test_none_is_needed(self):
        two = b_column(("f", "read"), ("g", "read"))
        for table in (chain("read", "follows"), chain("read"), Table(["a"], [[]]), two):
            self.assertEqual(least(table), [[]])

    def test_only_what_is_needed(self):
        self.assertEqual(least(chain("stays", "read", "follows", "stays")), [rewrites("bef")])
        self.assertEqual(least(chain("follows", "stays", "read")), [rewrites("c")])
        table = Table(["a"], [
            edition("b f a read", "c f a follows"), edition("b f a follows", "c f a read"),
        ])
        self.assertEqual(least(table), [rewrites("b")])

    def test_all_orders_that_do(self):
        table = Table(["a"], [[(column, "f", ["a"], "stays") for column in "eb"]])
        self.assertEqual(least(table), [rewrites("eb"), rewrites("be")])
        table = Table(["a"], [[(column, "f", ["a"], "stays") for column in "zyx"]])
        self.assertEqual(least(table), [rewrites(order) for order in ("zyx", "zxy", "yzx", "yxz", "xzy", "xyz")])
        table = Table(["a"], [edition("z f a stays", "b f . stays", "c f z stays")])
        self.assertEqual(least(table), [rewrites("zc")])
        table = Table(["a"], [edition("z f a stays", "b f a stays", "c f z stays")])
        self.assertEqual(least(table), [rewrites("zbc"), rewrites("zcb"), rewrites("bzc")])

    def test_orders_that_only_one_edition_asks_for(self):
        table = Table(["a"], [
            edition("b f a stays", "c f a stays"), edition("b f a stays", "c f b stays"),
        ])
        self.assertEqual(least(table), [rewrites("bc")])


class SafeOrders(unittest.TestCase):
    def test_no_column_is_kept(self):
        for table in (chain("read", "read"), Table(["a"], [[], []])):
            self.assertEqual(safe_orders(table), [[]])

    def test_also_columns_that_are_always_now(self):
        self.assertEqual(least(chain("follows", "follows")), [[]])
        self.assertEqual(safe_orders(chain("follows", "follows")), [rewrites("bc"), rewrites("cb")])
        self.assertEqual(safe_orders(chain("read", "follows")), [rewrites("c")])

    def test_all_orders_of_columns_that_stand_alone(self):
        table = Table(["a"], [[(column, "f", ["a"], "stays") for column in "zyx"]])
        self.assertEqual(safe_orders(table), [rewrites(order) for order in ("zyx", "zxy", "yzx", "yxz", "xzy", "xyz")])

    def test_sources_come_ahead(self):
        self.assertEqual(safe_orders(chain("stays", "stays", "stays")), [rewrites("bce")])
        self.assertEqual(safe_orders(chain("stays", "read", "stays")), [rewrites("be")])

    def test_a_column_that_is_read_now_but_kept_by_another_edition(self):
        table = Table(["a"], [
            edition("b f a stays", "c f b read"), edition("b f a read", "c f b follows"),
        ])
        self.assertEqual(safe_orders(table), [rewrites("bc")])
        self.assertEqual(settled_at(table, 1, rewrites("cb")), True)

    def test_a_list_that_settles_but_is_not_safe(self):
        """By the first edition, c is read, and "now" only when b has been rewritten, too."""
        table = Table(["a"], [
            edition("b f a stays", "c g b read"), edition("b f a stays", "c h a stays"),
        ])
        self.assertTrue(settles(table, rewrites("cb")))
        self.assertEqual(least(table), [rewrites("bc"), rewrites("cb")])
        self.assertEqual(safe_orders(table), [rewrites("bc")])


class AgainstSearches(unittest.TestCase):
    def lists(self, table, chance):
        """Lists of deeds: rewrites of some columns, and others."""
        kept = rewrites(table.columns)
        lists = [list(order) for many in range(len(kept) + 1) for order in itertools.permutations(kept, many)]
        deeds = table.deeds()[:-1]
        return lists + [[chance.choice(deeds) for _ in range(chance.randrange(1, 7))] for _ in range(6)]

    def first_of(self, table, histories):
        return min(histories, key=lambda history: place(table, history), default=None)

    def check(self, table, deeds, found):
        """That the answers are those of a search that found these histories, edition by edition."""
        told = self.first_of(table, found.values())
        self.assertEqual(unsettled(table, deeds), told)
        self.assertIs(settles(table, deeds), told is None)
        for edition in range(len(table)):
            self.assertIs(settled_at(table, edition, deeds), edition not in found)

    def test_plain_search(self):
        chance = random.Random(51)
        for longest, plain, columns, editions in ((5, 1, 2, 3), (4, 2, 3, 2), (5, 1, 3, 2)):
            for made in random_tables(52, 6, plain=plain, columns=columns, editions=editions, sources=2):
                table = Table(*made)
                for deeds in chance.sample(self.lists(table, chance), 4):
                    found = unsettled_rows(table, deeds, longest)
                    told = unsettled(table, deeds)
                    short = told if told and len(told) <= longest else None
                    self.assertEqual(short, self.first_of(table, found.values()))
                    self.assertFalse(any(settled_at(table, edition, deeds) for edition in found))

    def test_full_search(self):
        chance = random.Random(53)
        made = random_tables(54, 12, plain=1, columns=3, editions=3, sources=2)
        made += random_tables(55, 8, plain=2, columns=3, editions=2, sources=2)
        made += random_tables(56, 8, plain=2, columns=2, editions=3, sources=2)
        ended = 0
        for plain, editions in made:
            with self.subTest((plain, editions)):
                table = Table(plain, editions)
                lists = self.lists(table, chance)

                def left(state):
                    return [(at, state.edition) for at, deeds in enumerate(lists) if not is_settled(state, deeds)]

                found, bound = search(State(plain, editions), table.deeds(), left, [None], 200, "now")
                if bound is not None:
                    continue
                ended += 1
                each = [{edition: found[at, edition] for edition in range(len(table)) if (at, edition) in found}
                        for at in range(len(lists))]
                for deeds, histories in zip(lists, each):
                    self.check(table, deeds, histories)
                settling = [deeds for deeds, histories in list(zip(lists, each))[:-6] if not histories]
                fewest = min(len(deeds) for deeds in settling)
                self.assertEqual(least(table), [deeds for deeds in settling if len(deeds) == fewest])
        self.assertGreater(ended, len(made) // 2)

    def test_safe_orders(self):
        made = random_tables(57, 20, plain=1, columns=3, editions=3, sources=2)
        made += random_tables(58, 6, plain=2, columns=3, editions=2, sources=2)
        many = set()
        for plain, editions in made:
            table = Table(plain, editions)
            kept = [column for column in table.columns if any(line[2] != "read" for line in table[column])]
            orders = [rewrites(order) for order in itertools.permutations(kept)]

            def left(state):
                return [at for at, deeds in enumerate(orders) if not is_safe(state, deeds)]

            found, bound = search(State(plain, editions), table.deeds(), left, [None], 200, "now")
            if bound is None:
                expected = [deeds for at, deeds in enumerate(orders) if at not in found]
                self.assertEqual(safe_orders(table), expected)
                many.add(len(expected))
        self.assertLessEqual({1, 2, 3, 6}, many)


def place(table, history):
    """Where a history stands in the order of all histories."""
    return len(history), [table.deeds().index(deed) for deed in history]


def columns_now(state, columns):
    return all(state.told(column) == state.true(column, state.edition) for column in columns)


def is_settled(state, deeds):
    for deed in deeds:
        state = state.behind(deed)
    return columns_now(state, state.editions[0])


def is_safe(state, deeds):
    for at, deed in enumerate(deeds):
        state = state.behind(deed)
        if not columns_now(state, [column for _, column in deeds[:at + 1]]):
            return False
    return True


class WithOtherQuestions(unittest.TestCase):
    """What the answers say of standings."""

    def setUp(self):
        made = random_tables(61, 60, plain=2, columns=3, editions=3, sources=2)
        self.tables = [Table(plain, editions) for plain, editions in made]

    def test_no_deeds_settle_exactly_if_all_is_always_now(self):
        for table in self.tables:
            self.assertIs(settles(table, []), always_now(table) == table.columns)
            others = ("old", "lacks", "nobody")
            told = [first(table, column, standing) for column in table.columns for standing in others]
            histories = [history for history in told if history]
            expected = min(histories, key=lambda history: place(table, history), default=None)
            self.assertEqual(unsettled(table, []), expected)

    def test_the_lists_of_least(self):
        for table in self.tables:
            lists = least(table)
            self.assertEqual(len({tuple(sorted(deeds)) for deeds in lists}), 1)
            for deeds in lists:
                self.assertTrue(settles(table, deeds))
                self.assertEqual(len(set(deeds)), len(deeds))
                for at in range(len(deeds)):
                    self.assertFalse(settles(table, deeds[:at] + deeds[at + 1:]))

    def test_told_histories_are_left_unsettled(self):
        for table in self.tables:
            for deeds in ([], rewrites(table.columns[:1]), rewrites(table.columns[::-1])):
                history = unsettled(table, deeds)
                if history:
                    row = Row(table)
                    for deed in history[1:] + deeds:
                        row(deed)
                    self.assertFalse(are_now(row, table.columns))

    def test_all_columns_in_order_settle_and_are_safe(self):
        for table in self.tables:
            self.assertTrue(settles(table, rewrites(table.columns)))
            self.assertTrue(settles(table, [PUT]))
            kept = [column for column in table.columns if any(line[2] != "read" for line in table[column])]
            self.assertIn(rewrites(kept), safe_orders(table))


class Arguments(unittest.TestCase):
    def setUp(self):
        self.table = Table(["a"], [edition("b f a stays", "c f a stays")])

    def test_by_name(self):
        table = self.table
        self.assertEqual(settles(table=table, deeds=[PUT]), True)
        self.assertEqual(unsettled(deeds=[], table=table), [PUT, SET])
        self.assertEqual(least(table=table), [rewrites("bc"), rewrites("cb")])
        self.assertEqual(safe_orders(table=table), [rewrites("bc"), rewrites("cb")])
        self.assertEqual(settled_at(deeds=[], edition=0, table=table), False)
        self.assertEqual(settled_at(table, 0, deeds=[PUT]), True)

    def test_what_is_told_is_new(self):
        for tell in (lambda: least(self.table), lambda: safe_orders(self.table), lambda: unsettled(self.table, [])):
            check_new_lists(self, tell)
        read = chain("read")
        check_new_lists(self, lambda: least(read))
        check_new_lists(self, lambda: safe_orders(read))

    def test_nothing_is_modified(self):
        deeds = [PUT, SET, ("rewrite", "b")]
        before, editions = copy.deepcopy(deeds), self.table.editions
        settles(self.table, deeds)
        settled_at(self.table, 0, deeds)
        history = unsettled(self.table, deeds)
        self.assertEqual((deeds, self.table.editions), (before, editions))
        history.append("x")
        self.assertEqual(unsettled(self.table, deeds), [PUT])


class Errors(unittest.TestCase):
    NONE = [
        (), ("",), ("put", "a"), ("set",), ("set", "b"), ("set", "x"), ("set", "a", "a"), ("rewrite",),
        ("rewrite", "a"), ("rewrite", "x"), ("rewrite", "b", "b", "b"), ("Put",), ("undo",), ("edition", "b"), EDITION,
    ]

    def setUp(self):
        self.table = b_column(("f", "stays"), ("g", "read"))

    def check(self, value, deeds):
        for call in (settles, unsettled):
            check_raises(self, InvalidDeed, value, call, self.table, deeds)
            check_raises(self, InvalidDeed, value, call, table=self.table, deeds=deeds)
        for edition in (-1, 0, 1, 2):
            check_raises(self, InvalidDeed, value, settled_at, self.table, edition, deeds)
            check_raises(self, InvalidDeed, value, settled_at, table=self.table, edition=edition, deeds=deeds)

    def test_deeds_that_are_none_and_editions(self):
        for deed in self.NONE:
            with self.subTest(deed):
                self.check(deed, [deed])
                self.check(deed, [PUT, SET, ("rewrite", "b"), deed, PUT])

    def test_the_first_of_several_is_told(self):
        self.check(EDITION, [PUT, EDITION, ("set", "b")])
        self.check(("set", "b"), [("set", "b"), EDITION])
        self.check((), [(), ("",)])

    def test_editions_that_there_are_not(self):
        for edition in (-1, -2, 2, 3, 100):
            check_raises(self, InvalidEdition, edition, settled_at, self.table, edition, [])
            check_raises(self, InvalidEdition, edition, settled_at, table=self.table, edition=edition, deeds=[PUT])

    def test_the_value_is_the_deed_itself(self):
        deed = ("set", "x")
        with self.assertRaises(InvalidDeed) as caught:
            settles(self.table, [deed])
        self.assertIs(caught.exception.value, deed)


if __name__ == "__main__":
    unittest.main()
