"""What README.md says by its comments is so."""

import pathlib
import unittest

ROOT = pathlib.Path(__file__).resolve().parent.parent


class Readme(unittest.TestCase):
    def test_the_code_runs_and_gives_what_it_says(self):
        text = (ROOT / "README.md").read_text()
        code = text.split("```python\n")[1].split("```")[0]
        names = {}
        exec(code, names)
        table = names["table"]
        told = {
            'comes(table, "b")': ["now", "old"],
            'first(table, "b", "old")': [("put",), ("set", "a")],
            "always_now(table)": [],
            'first_missed(table, "b", "written")': None,
            'first_wrongly(table, "b", "reckoned")': [("put",), ("set", "a"), ("rewrite", "b")],
            "indexed.missed()": False,
            "indexed.wrongly()": True,
            "row.history": [("put",)],
            'settles(table, [("rewrite", "b")])': True,
            'unsettled(table, [("set", "a")])': [("put",)],
            "settled_at(table, 1, [])": False,
            "least(table)": [[("rewrite", "b")]],
            "show_table(table)": "plain a; b = f(a) stays; b = g(a) stays",
            "show_history(row.history)": "put",
            'read_history("put, set a")': [("put",), ("set", "a")],
            "alike(table, other)": False,
            "first_unlike(table, other)": [("put",), ("edition",)],
        }
        for asked, answer in told.items():
            self.assertIn(asked, code)
            self.assertEqual(eval(asked, names), answer)
        self.assertEqual(table.columns, ["b"])

    def test_each_file_of_the_package_is_listed(self):
        text = (ROOT / "README.md").read_text()
        for path in (ROOT / "keptworths").glob("*.py"):
            if path.name != "__init__.py":
                self.assertIn(f"`{path.name}`", text)


if __name__ == "__main__":
    unittest.main()
