"""Point 1 (no clock, no chance, no files) and the form of the package's own files."""

import ast
import builtins
import pathlib
import re
import unittest

PACKAGE = pathlib.Path(__file__).resolve().parent.parent / "quillhouse"

BUILT_IN_NAMES = """
len range enumerate zip min max sum abs sorted reversed int str bool list tuple dict set frozenset isinstance ord
repr any all divmod Exception ValueError TypeError KeyError IndexError LookupError ZeroDivisionError ArithmeticError
OverflowError RuntimeError NotImplementedError AttributeError StopIteration
""".split()

METHODS = "__init__ __eq__ __repr__ __str__ __len__".split()

KINDS_NOT_USED = (
    ast.Import, ast.AsyncFunctionDef, ast.AsyncFor, ast.AsyncWith, ast.Await, ast.With, ast.Match, ast.Delete,
    ast.Global, ast.Nonlocal, ast.Assert, ast.Yield, ast.YieldFrom, ast.Div, ast.MatMult, ast.SetComp, ast.DictComp,
    ast.GeneratorExp, ast.NamedExpr, ast.Starred,
)

WORDS_NOT_USED = """
type typing typing_extensions enum Enum IntEnum StrEnum Flag IntFlag Generic Protocol ABC ABCMeta namedtuple
NamedTuple TypedDict TYPE_CHECKING abstractmethod
""".split()


def package_files():
    return sorted(path for path in PACKAGE.rglob("*") if path.is_file() and "__pycache__" not in path.parts)


def nodes_of(path):
    return list(ast.walk(ast.parse(path.read_text(encoding="ascii"))))


def bound_names(nodes):
    names = []
    for node in nodes:
        if isinstance(node, (ast.FunctionDef, ast.ClassDef)):
            names.append(node.name)
        elif isinstance(node, ast.arg):
            names.append(node.arg)
        elif isinstance(node, ast.Name) and isinstance(node.ctx, ast.Store):
            names.append(node.id)
    return names


class TestPackage(unittest.TestCase):
    def test_files(self):
        self.assertIn(PACKAGE / "__init__.py", package_files())
        for path in package_files():
            with self.subTest(file=path.name):
                self.assertRegex(path.name, r"^(__init__|[a-z][a-z0-9_]*)\.py$")

    def test_signs_and_sizes(self):
        for path in package_files():
            with self.subTest(file=path.name):
                text = path.read_bytes().decode("ascii")
                self.assertIsNone(re.search(r"[^ -~\n]", text))
                self.assertLessEqual(len(text.split("\n")), 400)
                self.assertLessEqual(max(len(line) for line in text.split("\n")), 120)

    def test_functions_are_short(self):
        for path in package_files():
            with self.subTest(file=path.name):
                for node in nodes_of(path):
                    if isinstance(node, ast.FunctionDef):
                        self.assertLessEqual(node.end_lineno - node.lineno + 1, 40, node.name)

    def test_draws_from_its_own_files_alone(self):
        for path in package_files():
            with self.subTest(file=path.name):
                for node in nodes_of(path):
                    if isinstance(node, ast.ImportFrom):
                        self.assertEqual(node.level, 0)
                        self.assertTrue(node.module.startswith("quillhouse."), node.module)
                        self.assertNotIn("*", [name.name for name in node.names])

    def test_of_the_built_in_names_only_the_listed_ones(self):
        for path in package_files():
            with self.subTest(file=path.name):
                nodes = nodes_of(path)
                read = [node.id for node in nodes if isinstance(node, ast.Name)]
                self.assertEqual([name for name in read if hasattr(builtins, name) and name not in BUILT_IN_NAMES], [])
                self.assertEqual([name for name in bound_names(nodes) if hasattr(builtins, name)], [])

    def test_names_do_not_begin_with_an_underscore(self):
        for path in package_files():
            with self.subTest(file=path.name):
                names = [name for name in bound_names(nodes_of(path)) if name.startswith("_")]
                self.assertEqual([name for name in names if name not in METHODS], [])

    def test_kinds_of_statements_and_expressions(self):
        for path in package_files():
            with self.subTest(file=path.name):
                for node in nodes_of(path):
                    self.assertNotIsInstance(node, KINDS_NOT_USED)
                    self.assertFalse(isinstance(node, ast.Constant) and isinstance(node.value, (float, complex, bytes)))
                    self.assertFalse(isinstance(node, (ast.For, ast.While)) and node.orelse)
                    self.assertFalse(isinstance(node, (ast.FunctionDef, ast.ClassDef)) and node.decorator_list)
                    self.assertFalse(isinstance(node, ast.Assign) and len(node.targets) > 1)

    def test_words_that_stand_nowhere(self):
        for path in package_files():
            with self.subTest(file=path.name):
                words = re.findall(r"\w+", path.read_text(encoding="ascii"))
                self.assertEqual([word for word in words if word in WORDS_NOT_USED], [])


if __name__ == "__main__":
    unittest.main()
