"""Those rules of the language for the package that a look at its lines can tell."""

import ast
import builtins
import pathlib
import re
import unittest

PACKAGE = pathlib.Path(__file__).resolve().parent.parent / "shootdays"
BARRED = (
    "type typing typing_extensions enum Enum IntEnum StrEnum Flag IntFlag Generic Protocol ABC ABCMeta "
    "namedtuple NamedTuple TypedDict TYPE_CHECKING abstractmethod"
).split()
BARRED_WITHIN = ("dataclass", "overload", "contextmanager")
BUILTINS = (
    "len range enumerate zip min max sum abs sorted reversed int str bool bytes list tuple dict set frozenset isinstance "
    "ord repr any all divmod Exception ValueError TypeError KeyError IndexError LookupError ZeroDivisionError "
    "ArithmeticError OverflowError RuntimeError NotImplementedError AttributeError StopIteration super"
).split()
METHODS = (
    "append clear copy count endswith extend find get index insert isalnum isalpha isdigit islower isspace isupper items "
    "join keys ljust lower lstrip partition pop remove replace reverse rfind rjust rpartition rsplit rstrip setdefault "
    "split splitlines startswith strip update upper values zfill bit_length add discard sort __init__"
).split()


def files():
    return sorted(PACKAGE.glob("*.py"))


def trees():
    return [(path.name, ast.parse(path.read_text("utf-8"))) for path in files()]


def nodes(tree, *kinds):
    return [node for node in ast.walk(tree) if isinstance(node, kinds)]


def bound_names(tree):
    """The names of parameters and of variables."""
    stored = [node.id for node in nodes(tree, ast.Name) if isinstance(node.ctx, ast.Store)]
    return stored + [node.arg for node in nodes(tree, ast.arg)]


class FormTest(unittest.TestCase):
    def test_the_package_is_one_folder_of_py_files(self):
        others = [path.name for path in PACKAGE.iterdir() if path.suffix != ".py" and path.name != "__pycache__"]
        self.assertEqual(others, [])
        self.assertIn("__init__.py", [path.name for path in files()])

    def test_sizes_and_signs(self):
        for path in files():
            text = path.read_text("utf-8")
            with self.subTest(file=path.name):
                self.assertLessEqual(len(text.splitlines()), 400)
                self.assertLessEqual(max(map(len, text.splitlines()), default=0), 120)
                self.assertEqual([sign for sign in text if sign != "\n" and not " " <= sign <= "~"], [])

    def test_functions_have_at_most_forty_lines(self):
        for path in files():
            for node in ast.walk(ast.parse(path.read_text("utf-8"))):
                if isinstance(node, ast.FunctionDef):
                    with self.subTest(file=path.name, function=node.name):
                        self.assertLessEqual(node.end_lineno - node.lineno + 1, 40)

    def test_imports_are_from_files_of_the_package(self):
        for path in files():
            for node in ast.walk(ast.parse(path.read_text("utf-8"))):
                with self.subTest(file=path.name):
                    self.assertNotIsInstance(node, ast.Import)
                    if isinstance(node, ast.ImportFrom):
                        self.assertEqual(node.level, 0)
                        self.assertTrue(node.module.startswith("shootdays."))

    def test_barred_words_stand_nowhere(self):
        for path in files():
            text = path.read_text("utf-8")
            words = re.findall(r"\w+", text)
            with self.subTest(file=path.name):
                self.assertEqual([word for word in words if word in BARRED], [])
                self.assertEqual([word for word in BARRED_WITHIN if word in text], [])

    def test_only_the_listed_builtins(self):
        for name, tree in trees():
            read = {node.id for node in nodes(tree, ast.Name) if isinstance(node.ctx, ast.Load)}
            with self.subTest(file=name):
                self.assertEqual(sorted(word for word in read if hasattr(builtins, word) and word not in BUILTINS), [])

    def test_only_the_listed_methods_and_own_ones(self):
        own = {node.name for _, tree in trees() for node in nodes(tree, ast.FunctionDef)}
        for name, tree in trees():
            called = {node.func.attr for node in nodes(tree, ast.Call) if isinstance(node.func, ast.Attribute)}
            with self.subTest(file=name):
                self.assertEqual(sorted(called - set(METHODS) - own), [])

    def test_names_have_one_meaning(self):
        for name, tree in trees():
            imported = [alias.name for node in nodes(tree, ast.ImportFrom) for alias in node.names]
            classes = [node.name for node in nodes(tree, ast.ClassDef)]
            taken = [*imported, *classes, *dir(builtins)]
            with self.subTest(file=name):
                self.assertEqual([word for word in bound_names(tree) if word in taken or word.startswith("_")], [])
                made = [node.name for node in nodes(tree, ast.FunctionDef) if not node.name.startswith("__")]
                self.assertEqual([word for word in made if word.startswith("_") or word in dir(builtins)], [])

    def test_is_stands_beside_none_and_truths_alone(self):
        for name, tree in trees():
            for node in nodes(tree, ast.Compare):
                for sign, right in zip(node.ops, node.comparators):
                    if isinstance(sign, (ast.Is, ast.IsNot)):
                        with self.subTest(file=name, line=node.lineno):
                            self.assertIsInstance(right, ast.Constant)
                            self.assertIn(right.value, (None, True, False))

    def test_no_statements_and_signs_outside_the_language(self):
        barred = (ast.Global, ast.AsyncFunctionDef, ast.NamedExpr, ast.Div, ast.Await, ast.Import)
        for name, tree in trees():
            with self.subTest(file=name):
                self.assertEqual([type(node).__name__ for node in nodes(tree, *barred)], [])
                self.assertEqual([node for node in nodes(tree, ast.Constant) if isinstance(node.value, float)], [])
                for node in nodes(tree, ast.Constant):
                    self.assertNotIn("%", node.value if isinstance(node.value, str) else "")
                for node in nodes(tree, ast.BinOp):
                    if isinstance(node.op, ast.Pow):
                        self.assertIsInstance(node.right, ast.Constant)

    def test_nothing_runs_at_module_level(self):
        for name, tree in trees():
            for node in tree.body:
                with self.subTest(file=name, line=node.lineno):
                    self.assertIsInstance(node, (ast.Expr, ast.ImportFrom, ast.FunctionDef, ast.ClassDef, ast.Assign))
                    if isinstance(node, ast.Expr):
                        self.assertIsInstance(node.value, ast.Constant)
                    if isinstance(node, ast.Assign):
                        barred = (ast.Call, ast.ListComp, ast.DictComp, ast.SetComp, ast.Set, ast.Lambda)
                        self.assertEqual(nodes(node, *barred), [])

    def test_values_at_module_level_name_what_stands_above_them_in_the_file(self):
        for name, tree in trees():
            above = set()
            for node in tree.body:
                if isinstance(node, (ast.FunctionDef, ast.ClassDef)):
                    above.add(node.name)
                elif isinstance(node, ast.Assign):
                    with self.subTest(file=name, line=node.lineno):
                        self.assertLessEqual({word.id for word in nodes(node.value, ast.Name)}, above)
                        self.assertNotIn(node.targets[0].id, above)
                    above.add(node.targets[0].id)

    def test_no_name_is_a_method_here_and_an_attribute_there(self):
        methods, attributes = set(), set()
        for _, tree in trees():
            for made in nodes(tree, ast.ClassDef):
                methods |= {node.name for node in nodes(made, ast.FunctionDef)}
                attributes |= {node.attr for node in nodes(made, ast.Attribute) if isinstance(node.ctx, ast.Store)}
        self.assertEqual(sorted(methods & attributes), [])

    def test_no_two_files_import_from_each_other(self):
        ahead = {name: {node.module.partition(".")[2] + ".py" for node in nodes(tree, ast.ImportFrom)}
                 for name, tree in trees()}
        done = set()
        while len(done) < len(ahead):
            free = {name for name in ahead if name not in done and ahead[name] <= done}
            self.assertTrue(free, sorted(set(ahead) - done))
            done |= free


if __name__ == "__main__":
    unittest.main()
