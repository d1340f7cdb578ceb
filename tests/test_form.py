"""Those rules of the language for the package that a look at its lines can tell."""

import ast
import pathlib
import re
import unittest

PACKAGE = pathlib.Path(__file__).resolve().parent.parent / "shootdays"
BARRED = (
    "type typing typing_extensions enum Enum IntEnum StrEnum Flag IntFlag Generic Protocol ABC ABCMeta "
    "namedtuple NamedTuple TypedDict TYPE_CHECKING abstractmethod"
).split()
BARRED_WITHIN = ("dataclass", "overload", "contextmanager")


def files():
    return sorted(PACKAGE.glob("*.py"))


class FormTest(unittest.TestCase):
    def test_the_package_is_one_folder_of_py_files(self):
        others = [path.name for path in PACKAGE.iterdir() if path.suffix != ".py" and path.name != "__pycache__"]
        self.assertEqual(others, [])
        self.assertIn("__init__.py", [path.name for path in files()])

    def test_sizes_and_signs(self):
        for path in files():
            text = path.read_text("utf-8")
            with self.subTest(file=path.name):
                self.assertLessEqual(len(text.splitlines()), 400)
                self.assertLessEqual(max(map(len, text.splitlines()), default=0), 120)
                self.assertEqual([sign for sign in text if sign != "\n" and not " " <= sign <= "~"], [])

    def test_functions_have_at_most_forty_lines(self):
        for path in files():
            for node in ast.walk(ast.parse(path.read_text("utf-8"))):
                if isinstance(node, ast.FunctionDef):
                    with self.subTest(file=path.name, function=node.name):
                        self.assertLessEqual(node.end_lineno - node.lineno + 1, 40)

    def test_imports_are_from_files_of_the_package(self):
        for path in files():
            for node in ast.walk(ast.parse(path.read_text("utf-8"))):
                with self.subTest(file=path.name):
                    self.assertNotIsInstance(node, ast.Import)
                    if isinstance(node, ast.ImportFrom):
                        self.assertEqual(node.level, 0)
                        self.assertTrue(node.module.startswith("shootdays."))

    def test_barred_words_stand_nowhere(self):
        for path in files():
            text = path.read_text("utf-8")
            words = re.findall(r"\w+", text)
            with self.subTest(file=path.name):
                self.assertEqual([word for word in words if word in BARRED], [])
                self.assertEqual([word for word in BARRED_WITHIN if word in text], [])


if __name__ == "__main__":
    unittest.main()
