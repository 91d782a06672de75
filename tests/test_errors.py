import unittest

from keptworths import errors
from keptworths.errors import WorthError

NAMES = (
    "InvalidName", "DoubleName", "UnknownColumn", "InvalidEdition", "InvalidDeed", "InvalidKind", "UnlikeTables",
    "NothingToUndo", "Unreadable",
)


class ErrorClasses(unittest.TestCase):
    def test_the_base_is_a_value_error(self):
        self.assertEqual(WorthError.__bases__, (ValueError,))

    def test_each_class_is_below_the_base_and_below_no_other(self):
        for name in NAMES:
            made = getattr(errors, name)
            with self.subTest(name):
                self.assertEqual(made.__bases__, (WorthError,))
                self.assertEqual(made.__name__, name)

    def test_each_is_caught_by_its_own_name_and_by_no_other(self):
        for name in NAMES:
            made = getattr(errors, name)
            for caught in (made, WorthError, ValueError):
                with self.subTest((name, caught)), self.assertRaises(caught):
                    raise made(0)
            for other in NAMES:
                if other != name:
                    self.assertNotIsInstance(made(0), getattr(errors, other))

    def test_the_value_is_stored_itself(self):
        for name in NAMES + ("WorthError",):
            made = getattr(errors, name)
            for value in ("text", "", 0, -1, None, True, ("set", "a"), [["a"], []], {}, b"", made):
                with self.subTest((name, value)):
                    self.assertIs(made(value).value, value)
                    self.assertIs(made(value=value).value, value)

    def test_one_argument_is_needed(self):
        for name in NAMES + ("WorthError",):
            made = getattr(errors, name)
            for arguments in ((), (1, 2)):
                with self.subTest(name), self.assertRaises(TypeError):
                    made(*arguments)


if __name__ == "__main__":
    unittest.main()
