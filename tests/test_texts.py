"""Texts of tables and histories, and what is read from them."""

import random
import re
import unittest

from checks import b_column, check_new_lists, check_raises, edition
from keptworths.compare import alike
from keptworths.errors import Unreadable
from keptworths.readings import read_history, read_table
from keptworths.rewrites import least
from keptworths.rows import IndexedRow, Row
from keptworths.standings import comes
from keptworths.tables import Table
from keptworths.texts import show_history, show_table
from many_tables import random_history, random_tables

GREATER = {"plain": 6, "columns": 8, "editions": 8, "sources": 6}
LESSER = {"plain": 2, "columns": 3, "editions": 3, "sources": 2}
SIGNS = "".join(chr(number) for number in range(32, 127) if number != 37)

NAME = "[a-z]{1,8}"
LINE = rf"({NAME}) = ({NAME})\(((?:{NAME}(?: {NAME})*)?)\) (?:read|follows|stays)"
TABLE = re.compile(rf"plain(?P<plain>(?: {NAME})+)(?P<editions>(?:; (?:{LINE}(?:, {LINE})*)?)+)")
HISTORY = re.compile(rf"((^|, )(put|edition|(set|rewrite) {NAME}))*")


def is_table_text(text):
    """Whether a text is one of a table, by its form, and then by its names."""
    form = TABLE.fullmatch(text)
    if not form:
        return False
    plain = form["plain"].split()
    editions = [re.findall(LINE, lines) for lines in form["editions"].split(";")[1:]]
    columns = [[line[0] for line in lines] for lines in editions]
    names = plain + columns[0]
    for lines in editions:
        for at, (_, _, inner) in enumerate(lines):
            sources = inner.split()
            if len(set(sources)) < len(sources) or not set(sources) <= set(names[:len(plain) + at]):
                return False
    return len(set(names)) == len(names) and all(other == columns[0] for other in columns)


def changed(chance, text):
    """A text with one sign too many, too few, or exchanged, or with two signs in each other's place."""
    at = chance.randrange(len(text) + 1)
    other = chance.choice(SIGNS + "ab,;()= " * 5)
    kind = chance.randrange(4)
    if kind == 0 or at == len(text):
        return text[:at] + other + text[at:]
    if kind == 1:
        return text[:at] + text[at + 1:]
    if kind == 2:
        return text[:at] + other + text[at + 1:]
    beside = chance.randrange(at, len(text))
    return text[:at] + text[beside] + text[at + 1:beside] + text[at] * (beside > at) + text[beside + 1:]


class Tables(unittest.TestCase):
    def check(self, text, table):
        self.assertEqual(show_table(table), text)
        self.assertEqual(read_table(text), table)
        self.assertEqual(read_table(text).editions, table.editions)
        self.assertTrue(is_table_text(text))

    def test_one_edition(self):
        self.check("plain a; b = f(a) read", Table(["a"], [edition("b f a read")]))
        table = Table(["d", "a"], [edition("b f ad stays", "c h . follows")])
        self.check("plain d a; b = f(a d) stays, c = h() follows", table)

    def test_several_editions(self):
        table = Table(["a"], [edition("b f a stays", "c g ba read"), edition("b f . read", "c h b follows")])
        self.check("plain a; b = f(a) stays, c = g(b a) read; b = f() read, c = h(b) follows", table)
        self.check("plain a; b = f(a) read; b = f(a) read; b = f(a) read", b_column(*[("f", "read")] * 3))

    def test_long_names_and_names_that_are_words_of_texts(self):
        table = Table(["plainest", "plain"], [[
            ("read", "abcdefgh", ["plain", "plainest"], "stays"), ("stays", "read", ["read"], "follows"),
            ("follows", "follows", [], "read"),
        ]])
        text = "plain plainest plain; read = abcdefgh(plain plainest) stays, stays = read(read) follows, "
        self.check(text + "follows = follows() read", table)

    def test_no_reckoned_column(self):
        self.check("plain a; ", Table(["a"], [[]]))
        self.check("plain a b; ; ", Table(["a", "b"], [[], []]))

    def test_many_tables(self):
        for plain, editions in random_tables(91, 40, **GREATER) + random_tables(92, 100, **LESSER):
            table = Table(plain, editions)
            text = show_table(table)
            self.check(text, table)
            self.assertEqual(show_table(read_table(text)), text)

    def test_a_great_table(self):
        names = [one + other for one in "abcdefghijklmnop" for other in "qrstuvwxyz"]
        lines = [(name, "f", [names[at]], "read") for at, name in enumerate(names[1:])]
        table = Table(names[:1], [lines])
        self.assertGreater(len(show_table(table)), 2700)
        self.check(show_table(table), table)
        self.check(f"plain {' '.join(names)}; ", Table(names, [[]]))
        self.check("plain a" + "; b = f(a) read" * 190, b_column(*[("f", "read")] * 190))

    def test_texts_that_are_none(self):
        texts = [
            "", " ", "plain", "plain ", "plain a", "plain a;", "plain a ; ", "plain  a; ", "plain a;  ", "Plain a; ",
            " plain a; ", "plain; b = f() read", "plain ; b = f() read", "plain a, b; ", "plain a; b",
            "plain a; b = f(a)", "; b = f(a) read", "plain a; b = f(a) read ", " plain a; b = f(a) read",
            "plain a; b = f(a) read;", "plain a; b = f(a) read,", "plain a; b = f(a) read, ",
            "plain a; b = f(a) read; ", "plain a; ; b = f(a) read", "plain a;b = f(a) read", "plain a; b =f(a) read",
            "plain a; b= f(a) read", "plain a; b  = f(a) read", "plain a; b = f (a) read", "plain a; b = f( a) read",
            "plain a; b = f(a ) read", "plain a; b = f(a)read", "plain a; b = f(a)  read", "plain a; b = f( ) read",
            "plain a; b = f(a, a) read", "plain a; b = f(a a) read", "plain a; b = f[a] read",
            "plain a; b = f(a read", "plain a; b = fa) read", "plain a; b = (a) read", "plain a;  = f(a) read",
            "plain a; b = f(a) = read", "plain a; b = c = f(a) read", "plain a; b = f((a)) read",
            "plain a; b = f(a)) read", "plain a; b = f(a) Read", "plain a; b = f(a) kept", "plain a; b = f(a) ",
            "plain a; b = f(a) follow", "plain a; b = f(a) stays read", "plain a; b = f(c) read",
            "plain a; b = f(b) read", "plain a; a = f(a) read", "plain a; b = f(a) read, b = f(a) read",
            "plain a; b = f(c) read, c = f(a) read", "plain a a; b = f(a) read",
            "plain a; b = f(a) read; c = f(a) read",
            "plain a; b = f(a) read, c = f(a) read; c = f(a) read, b = f(a) read",
            "plain a; b = f(a) read; b = f(a) read, c = f(a) read",
            "plain a; b = f(a) read, c = f(a) read; b = f(a) read", "plain abcdefghi; ",
            "plain a; abcdefghi = f(a) read", "plain a; b = abcdefghi(a) read", "plain A; ", "plain a; b = F(a) read",
            "plain a1; ", "plain a; b = f(a) read b = f(a) read", "plain a, b = f(a) read",
            "plain a; b = f(a) read;; b = f(a) read", "plain a; b = f(a) read; ; b = f(a) read",
            "plain a; b, c = f(a) read", "set a", "put", "plain a\n; ", "plain a; b = f(a) read\n",
        ]
        for text in texts:
            with self.subTest(text):
                self.assertFalse(is_table_text(text))
                check_raises(self, Unreadable, text, read_table, text)
                check_raises(self, Unreadable, text, read_table, text=text)

    def test_texts_that_are_nearly_some(self):
        chance = random.Random(93)
        readable = 0
        for plain, editions in random_tables(94, 60, **LESSER):
            text = show_table(Table(plain, editions))
            for _ in range(60):
                near = changed(chance, text)
                with self.subTest(near):
                    if is_table_text(near):
                        readable += 1
                        self.assertEqual(show_table(read_table(near)), near)
                    else:
                        check_raises(self, Unreadable, near, read_table, near)
        self.assertGreater(readable, 100)

    def test_a_text_of_any_signs(self):
        chance = random.Random(95)
        for length in list(range(30)) + [3000]:
            text = "".join(chance.choice(SIGNS) for _ in range(length))
            check_raises(self, Unreadable, text, read_table, text)
        for piece in ("; ", ", ", " = ", "(", ") ", " ", "plain ", "plain a; ", "b = f(a) read, "):
            text = piece * (3000 // len(piece))
            if not is_table_text(text):
                check_raises(self, Unreadable, text, read_table, text)


class Histories(unittest.TestCase):
    def check(self, text, deeds):
        self.assertEqual(show_history(deeds), text)
        self.assertEqual(read_history(text), deeds)

    def test_each_deed(self):
        self.check("", [])
        self.check("put", [("put",)])
        self.check("set a", [("set", "a")])
        self.check("rewrite abcdefgh", [("rewrite", "abcdefgh")])
        self.check("edition", [("edition",)])

    def test_several(self):
        self.check("put, set a, rewrite b, edition", [("put",), ("set", "a"), ("rewrite", "b"), ("edition",)])
        self.check("edition, edition, put, put", [("edition",), ("edition",), ("put",), ("put",)])
        self.check("set set, rewrite put, set edition", [("set", "set"), ("rewrite", "put"), ("set", "edition")])

    def test_many_histories(self):
        chance = random.Random(96)
        for plain, editions in random_tables(97, 30, **GREATER):
            deeds = random_history(chance, Table(plain, editions).deeds(), 8, 40)
            text = show_history(deeds)
            self.check(text, deeds)
            self.assertEqual(text.count(","), 39)
        self.check(", ".join(["put"] * 600), [("put",)] * 600)
        self.check(", ".join(["rewrite abcdefgh"] * 160), [("rewrite", "abcdefgh")] * 160)

    def test_texts_that_are_none(self):
        texts = [
            " ", ",", ", ", "put,", "put, ", ", put", " put", "put ", "put,put", "put,  put", "put , put", "put; put",
            "put put", "Put", "PUT", "puts", "pu", "put a", "put  a", "edition b", "editions", "set", "set ",
            "set  a", "set a ", "set a b", "set A", "set a1", "set abcdefghi", "set a, ", "seta", "rewrite",
            "rewrite ", "rewrite b c", "rewrite -", "undo", "get a", "set a,rewrite b", "set a; rewrite b",
            "put, set", "put, , put", "put, set a, edition b", "plain a; ", "('put',)", "set (a)", "set a\n", "put\n",
        ]
        for text in texts:
            with self.subTest(text):
                check_raises(self, Unreadable, text, read_history, text)
                check_raises(self, Unreadable, text, read_history, text=text)

    def test_texts_that_are_nearly_some(self):
        chance = random.Random(98)
        deeds = [("put",), ("set", "a"), ("rewrite", "b"), ("set", "abcdefgh"), ("edition",)]
        readable = 0
        for _ in range(3000):
            near = changed(chance, show_history([chance.choice(deeds) for _ in range(chance.randrange(6))]))
            with self.subTest(near):
                if HISTORY.fullmatch(near):
                    readable += 1
                    self.assertEqual(show_history(read_history(near)), near)
                else:
                    check_raises(self, Unreadable, near, read_history, near)
        self.assertGreater(readable, 100)


class WhatIsRead(unittest.TestCase):
    def setUp(self):
        self.table = Table(["a"], [edition("b f a stays", "c g b read"), edition("b h a read", "c g b stays")])
        self.read = read_table(show_table(self.table))

    def test_rows_of_a_table_that_was_read(self):
        self.assertEqual(Row(self.read), Row(self.table))
        one, other = IndexedRow(self.read, "c", "reckoned"), IndexedRow(self.table, "c", "reckoned")
        for deed in read_history("set a, edition, rewrite c, set a, put"):
            self.assertEqual(one(deed), other(deed))
            self.assertEqual((one.entries(), one.told("c"), one.standing("c")),
                             (other.entries(), other.told("c"), other.standing("c")))
        self.assertTrue(one == other)
        self.assertEqual(read_history(show_history(one.history)), other.history)

    def test_questions_about_a_table_that_was_read(self):
        self.assertTrue(alike(self.read, self.table))
        self.assertEqual(comes(self.read, "c"), comes(self.table, "c"))
        self.assertEqual(least(self.read), least(self.table))

    def test_lists_are_new(self):
        check_new_lists(self, lambda: read_history("put, set a"))
        check_new_lists(self, lambda: self.read.editions)
        check_new_lists(self, lambda: self.read["b"])
        self.assertEqual(self.read, self.table)

    def test_nothing_is_modified(self):
        deeds = [("put",), ("set", "a")]
        self.assertEqual(show_history(deeds), "put, set a")
        self.assertEqual(deeds, [("put",), ("set", "a")])
        text = show_table(self.table)
        self.assertEqual((show_table(self.table), show_table(self.read)), (text, text))

    def test_by_name(self):
        self.assertEqual(show_table(table=self.table), show_table(self.table))
        self.assertEqual(show_history(deeds=[("put",)]), "put")
        self.assertEqual(read_table(text="plain a; "), Table(["a"], [[]]))
        self.assertEqual(read_history(text="put"), [("put",)])

    def test_what_is_told_of_a_text_that_is_none(self):
        text = "".join(["plain ", "A", "; "])
        with self.assertRaises(Unreadable) as caught:
            read_table(text)
        self.assertIs(caught.exception.value, text)


if __name__ == "__main__":
    unittest.main()
