"""What of LANGUAGE.md and of the interface can be seen from the files of the package alone."""

import ast
import builtins
import pathlib
import unittest

PACKAGE = pathlib.Path(__file__).resolve().parent.parent / "keptworths"

BUILTINS = set(
    "len range enumerate zip min max sum abs sorted reversed int str bool bytes list tuple dict set frozenset isinstance "
    "ord repr any all divmod Exception ValueError TypeError KeyError IndexError LookupError ZeroDivisionError "
    "ArithmeticError OverflowError RuntimeError NotImplementedError NotImplemented property super".split()
)
BARRED = set(
    "mro elements open input law version_info with_traceback add_note register attrgetter breakpoint compile copyright "
    "credits delattr dir eval exec exit gc globals help id importlib license locals methodcaller os quit vars typing "
    "enum keys format".split()
)
DOUBLE = {"__init__", "__eq__", "__len__", "__call__", "__iter__", "__getitem__"}

INTERFACE = {
    "errors": {
        name: None for name in (
            "WorthError", "InvalidName", "DoubleName", "UnknownColumn", "InvalidEdition", "InvalidDeed", "InvalidKind",
            "UnlikeTables", "NothingToUndo", "Unreadable",
        )
    },
    "tables": {"Table": {
        "__init__": ["self", "plain", "editions"], "plain": ["self"], "editions": ["self"], "columns": ["self"],
        "__getitem__": ["self", "column"], "__len__": ["self"], "__eq__": ["self", "other"], "deeds": ["self"],
    }},
    "rows": {
        "Row": {
            "__init__": ["self", "table"], "__call__": ["self", "deed"], "told": ["self", "column"],
            "true": ["self", "column", "edition"], "standing": ["self", "column"], "edition": ["self"],
            "history": ["self"], "undo": ["self"], "__len__": ["self"], "__eq__": ["self", "other"],
        },
        "IndexedRow": {
            "__init__": ["self", "table", "column", "way"], "entries": ["self"], "missed": ["self"],
            "wrongly": ["self"], "__eq__": ["self", "other"],
        },
    },
    "standings": {
        "first": ["table", "column", "standing"], "comes": ["table", "column"], "always_now": ["table"],
        "first_missed": ["table", "column", "way"], "first_wrongly": ["table", "column", "way"],
    },
    "rewrites": {
        "settles": ["table", "deeds"], "unsettled": ["table", "deeds"], "least": ["table"],
        "settled_at": ["table", "edition", "deeds"], "safe_orders": ["table"],
    },
    "compare": {"alike": ["one", "other"], "first_unlike": ["one", "other"]},
    "texts": {"show_table": ["table"], "show_history": ["deeds"]},
    "readings": {"read_table": ["text"], "read_history": ["text"]},
}


def arguments(function):
    return [argument.arg for argument in function.args.args]


class Interface(unittest.TestCase):
    def test_each_name_is_defined_in_its_file_with_its_arguments(self):
        for name, listed in INTERFACE.items():
            body = ast.parse((PACKAGE / f"{name}.py").read_text()).body
            found = {item.name: item for item in body if isinstance(item, (ast.FunctionDef, ast.ClassDef))}
            for each, expected in listed.items():
                with self.subTest(each):
                    self.assertIn(each, found)
                    if isinstance(expected, list):
                        self.assertEqual(arguments(found[each]), expected)
                    for method, names in (expected.items() if isinstance(expected, dict) else ()):
                        methods = {item.name: item for item in found[each].body if isinstance(item, ast.FunctionDef)}
                        self.assertIn(method, methods)
                        self.assertEqual(arguments(methods[method]), names)


class Files(unittest.TestCase):
    def setUp(self):
        self.texts = {path.name: path.read_text(encoding="ascii") for path in sorted(PACKAGE.glob("*.py"))}
        self.trees = {name: ast.parse(text) for name, text in self.texts.items()}

    def nodes(self, *kinds):
        for name, tree in self.trees.items():
            for node in ast.walk(tree):
                if isinstance(node, kinds):
                    yield name, node

    def test_the_folder_holds_nothing_else(self):
        others = [path.name for path in PACKAGE.iterdir() if path.suffix != ".py" and path.name != "__pycache__"]
        self.assertEqual(others, [])
        self.assertIn("__init__.py", self.texts)

    def test_sizes_and_characters(self):
        for name, text in self.texts.items():
            self.assertLessEqual(len(text.splitlines()), 399, name)
            self.assertTrue(all(line.isprintable() and len(line) <= 120 for line in text.splitlines()), name)
            self.assertNotIn("%", text)
        for name, node in self.nodes(ast.FunctionDef):
            self.assertLessEqual(node.end_lineno - node.lineno + 1, 40, (name, node.name))

    def test_imports(self):
        imported = {}
        for name, node in self.nodes(ast.Import, ast.ImportFrom):
            self.assertIsInstance(node, ast.ImportFrom, name)
            package, _, module = node.module.partition(".")
            self.assertEqual((package, node.level), ("keptworths", 0), name)
            defined = [item.targets[0].id if isinstance(item, ast.Assign) else getattr(item, "name", None)
                       for item in self.trees[f"{module}.py"].body if not isinstance(item, ast.ImportFrom)]
            for alias in node.names:
                self.assertIn(alias.name, defined)
                self.assertIsNone(alias.asname)
            imported.setdefault(f"{name}", set()).add(f"{module}.py")
        while imported:
            free = [name for name, needs in imported.items() if not needs & set(imported)]
            self.assertTrue(free, "files import from each other")
            for name in free:
                del imported[name]

    def test_statements_and_expressions(self):
        none = (
            ast.AsyncFunctionDef, ast.Global, ast.Nonlocal, ast.Lambda, ast.GeneratorExp, ast.Div, ast.Yield, ast.With,
            ast.NamedExpr, ast.AnnAssign, ast.Delete,
        )
        self.assertEqual([(name, type(node).__name__, node.lineno) for name, node in self.nodes(*none)], [])
        for name, node in self.nodes(ast.Constant):
            self.assertNotIsInstance(node.value, (float, complex, bytes))

    def test_only_own_errors_are_caught(self):
        for name, node in self.nodes(ast.ExceptHandler):
            self.assertIn(node.type.id, INTERFACE["errors"], (name, node.lineno))

    def test_names(self):
        # A doctest that ran before leaves its last answer as the builtin `_`.
        known = set(dir(builtins)) - {"_"}
        for name, node in self.nodes(ast.Name):
            self.assertNotIn(node.id, BARRED, name)
            if node.id in known:
                self.assertIn(node.id, BUILTINS, (name, node.lineno))
                self.assertIsInstance(node.ctx, ast.Load, (name, node.lineno))
            if node.id == "_":
                self.assertIsInstance(node.ctx, ast.Store, (name, node.lineno))
        for name, node in self.nodes(ast.FunctionDef):
            self.assertNotIn(node.name, BARRED | known)
            self.assertTrue(not node.name.startswith("__") or node.name in DOUBLE)
            for argument in node.args.args:
                self.assertNotIn(argument.arg, BARRED | known)
        for name, node in self.nodes(ast.Attribute):
            self.assertNotIn(node.attr, BARRED, name)

    def test_no_name_is_a_method_and_an_attribute(self):
        methods, attributes = set(), set()
        for _, node in self.nodes(ast.ClassDef):
            methods |= {item.name for item in node.body if isinstance(item, ast.FunctionDef)}
        for _, node in self.nodes(ast.Attribute):
            if isinstance(node.ctx, ast.Store):
                attributes.add(node.attr)
        self.assertEqual(methods & attributes, set())

    def test_comparisons_by_is(self):
        for name, node in self.nodes(ast.Compare):
            for sign, other in zip(node.ops, node.comparators):
                if isinstance(sign, (ast.Is, ast.IsNot)):
                    self.assertIsNone(other.value, (name, node.lineno))

    def test_no_name_of_a_file_is_given_another_meaning_in_it(self):
        for name, tree in self.trees.items():
            top = {alias.asname or alias.name for node in tree.body if isinstance(node, ast.ImportFrom)
                   for alias in node.names}
            top |= {node.name for node in tree.body if isinstance(node, ast.ClassDef)}
            for node in ast.walk(tree):
                if isinstance(node, ast.Name) and isinstance(node.ctx, ast.Store):
                    self.assertNotIn(node.id, top, name)
                if isinstance(node, ast.arg):
                    self.assertNotIn(node.arg, top, name)


if __name__ == "__main__":
    unittest.main()
