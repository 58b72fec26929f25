"""Point 1 (no clock, no chance, no files) and the form of the package's own files."""

import ast
import builtins
import pathlib
import re
import unittest

PACKAGE = pathlib.Path(__file__).resolve().parent.parent / "quillhouse"

BUILT_IN_NAMES = """
len range enumerate zip min max sum abs sorted reversed int str bool list tuple dict set frozenset isinstance ord
repr any all divmod Exception ValueError TypeError KeyError IndexError LookupError ZeroDivisionError ArithmeticError
OverflowError RuntimeError NotImplementedError AttributeError StopIteration
""".split()

METHODS = "__init__ __eq__ __repr__ __str__ __len__".split()

KINDS_NOT_USED = (
    ast.Import, ast.AsyncFunctionDef, ast.AsyncFor, ast.AsyncWith, ast.Await, ast.With, ast.Match, ast.Delete,
    ast.Global, ast.Nonlocal, ast.Assert, ast.Yield, ast.YieldFrom, ast.Div, ast.MatMult, ast.SetComp, ast.DictComp,
    ast.GeneratorExp, ast.NamedExpr, ast.Starred,
)

WORDS_NOT_USED = """
type typing typing_extensions enum Enum IntEnum StrEnum Flag IntFlag Generic Protocol ABC ABCMeta namedtuple
NamedTuple TypedDict TYPE_CHECKING abstractmethod
""".split()

NAMES_NOT_USED = """
register mro elements open input version_info with_traceback add_note attrgetter breakpoint builtins compile copyright
credits delattr dir eval exec exit gc getattr globals hasattr help id importlib license locals methodcaller os quit
setattr super vars sys
""".split()

METHODS_OF_VALUES = """
append clear copy count endswith extend find get index insert isalnum isalpha isdigit islower isspace isupper items
join keys ljust lower lstrip partition pop remove replace reverse rfind rjust rpartition rsplit rstrip setdefault split
splitlines startswith strip update upper values zfill bit_length
""".split()


def package_files():
    return sorted(path for path in PACKAGE.rglob("*") if path.is_file() and "__pycache__" not in path.parts)


def nodes_of(path):
    return list(ast.walk(ast.parse(path.read_text(encoding="ascii"))))


def bound_names(nodes):
    names = []
    for node in nodes:
        if isinstance(node, (ast.FunctionDef, ast.ClassDef)):
            names.append(node.name)
        elif isinstance(node, ast.arg):
            names.append(node.arg)
        elif isinstance(node, ast.Name) and isinstance(node.ctx, ast.Store):
            names.append(node.id)
    return names


def definitions(nodes, kind):
    return [node for node in nodes if isinstance(node, kind)]


def own_methods():
    classes = [node for path in package_files() for node in definitions(nodes_of(path), ast.ClassDef)]
    return [method.name for node in classes for method in definitions(node.body, ast.FunctionDef)]


def own_values():
    attributes = [node for path in package_files() for node in definitions(nodes_of(path), ast.Attribute)]
    return [node.attr for node in attributes if isinstance(node.ctx, ast.Store)]


def path_of(module):
    return PACKAGE.joinpath(*module.split(".")[1:]).with_suffix(".py")


def drawn_from(path):
    rows = definitions(nodes_of(path), ast.ImportFrom)
    return [path_of(row.module) for row in rows if row.module != "__future__"]


class TestPackage(unittest.TestCase):
    def test_files(self):
        self.assertIn(PACKAGE / "__init__.py", package_files())
        for path in package_files():
            with self.subTest(file=path.name):
                self.assertRegex(path.name, r"^(__init__|[a-z][a-z0-9_]*)\.py$")

    def test_signs_and_sizes(self):
        for path in package_files():
            with self.subTest(file=path.name):
                text = path.read_bytes().decode("ascii")
                self.assertIsNone(re.search(r"[^ -~\n]", text))
                self.assertLessEqual(len(text.split("\n")), 400)
                self.assertLessEqual(max(len(line) for line in text.split("\n")), 120)

    def test_functions_are_short(self):
        for path in package_files():
            with self.subTest(file=path.name):
                for node in nodes_of(path):
                    if isinstance(node, ast.FunctionDef):
                        self.assertLessEqual(node.end_lineno - node.lineno + 1, 40, node.name)

    def test_draws_from_its_own_files_alone(self):
        for path in package_files():
            with self.subTest(file=path.name):
                for node in nodes_of(path):
                    if isinstance(node, ast.ImportFrom):
                        self.assertEqual(node.level, 0)
                        self.assertTrue(node.module.startswith(("quillhouse.", "__future__")), node.module)
                        self.assertNotIn("*", [name.name for name in node.names])

    def test_of_the_built_in_names_only_the_listed_ones(self):
        for path in package_files():
            with self.subTest(file=path.name):
                nodes = nodes_of(path)
                read = [node.id for node in nodes if isinstance(node, ast.Name)]
                self.assertEqual([name for name in read if hasattr(builtins, name) and name not in BUILT_IN_NAMES], [])
                bound = [name for name in bound_names(nodes) if name not in METHODS]
                self.assertEqual([name for name in bound if hasattr(builtins, name)], [])

    def test_names_do_not_begin_with_an_underscore(self):
        for path in package_files():
            with self.subTest(file=path.name):
                names = [name for name in bound_names(nodes_of(path)) if name.startswith("_")]
                self.assertEqual([name for name in names if name not in METHODS], [])

    def test_kinds_of_statements_and_expressions(self):
        for path in package_files():
            with self.subTest(file=path.name):
                for node in nodes_of(path):
                    self.assertNotIsInstance(node, KINDS_NOT_USED)
                    self.assertFalse(isinstance(node, ast.Constant) and isinstance(node.value, (float, complex, bytes)))
                    self.assertFalse(isinstance(node, (ast.For, ast.While)) and node.orelse)
                    self.assertFalse(isinstance(node, (ast.FunctionDef, ast.ClassDef)) and node.decorator_list)
                    self.assertFalse(isinstance(node, ast.Assign) and len(node.targets) > 1)

    def test_words_that_stand_nowhere(self):
        for path in package_files():
            with self.subTest(file=path.name):
                words = re.findall(r"\w+", path.read_text(encoding="ascii"))
                self.assertEqual([word for word in words if word in WORDS_NOT_USED], [])

    def test_imports_come_from_the_file_that_defines_the_name(self):
        for path in package_files():
            for row in definitions(nodes_of(path), ast.ImportFrom):
                if row.module != "__future__":
                    top = ast.parse(path_of(row.module).read_text(encoding="ascii")).body
                    defined = bound_names(definitions(top, (ast.FunctionDef, ast.ClassDef)))
                    for name in row.names:
                        with self.subTest(file=path.name, name=name.name):
                            self.assertIn(name.name, defined)

    def test_no_two_files_draw_from_one_another(self):
        for path in package_files():
            with self.subTest(file=path.name):
                reached = []
                ahead = drawn_from(path)
                while ahead:
                    other = ahead.pop()
                    if other not in reached:
                        reached.append(other)
                        ahead += drawn_from(other)
                self.assertNotIn(path, reached)

    def test_names_that_are_not_used(self):
        for path in package_files():
            with self.subTest(file=path.name):
                nodes = nodes_of(path)
                names = bound_names(nodes) + [node.id for node in definitions(nodes, ast.Name)]
                names += [node.attr for node in definitions(nodes, ast.Attribute)]
                self.assertEqual([name for name in names if name in NAMES_NOT_USED], [])

    def test_locals_are_not_called_like_a_class_or_an_import(self):
        for path in package_files():
            with self.subTest(file=path.name):
                nodes = nodes_of(path)
                taken = [node.name for node in definitions(nodes, ast.ClassDef)]
                taken += [name.name for row in definitions(nodes, ast.ImportFrom) for name in row.names]
                bound = bound_names(definitions(nodes, (ast.arg, ast.Name)))
                self.assertEqual([name for name in bound if name in taken], [])

    def test_methods_that_are_called(self):
        methods = METHODS_OF_VALUES + own_methods()
        for path in package_files():
            with self.subTest(file=path.name):
                called = [node.func for node in definitions(nodes_of(path), ast.Call)]
                self.assertEqual([node.attr for node in definitions(called, ast.Attribute)
                                  if node.attr not in methods], [])

    def test_no_name_is_a_method_and_a_value(self):
        self.assertEqual([name for name in own_values() if name in own_methods()], [])

    def test_classes_hold_methods_alone(self):
        for path in package_files():
            for node in definitions(nodes_of(path), ast.ClassDef):
                with self.subTest(file=path.name, name=node.name):
                    names = [method.name for method in definitions(node.body, ast.FunctionDef)]
                    self.assertEqual(len(names), len(set(names)))
                    self.assertEqual([part for part in node.body
                                      if not isinstance(part, (ast.FunctionDef, ast.Pass, ast.Expr))], [])

    def test_is_stands_beside_none_true_and_false_alone(self):
        for path in package_files():
            for node in definitions(nodes_of(path), ast.Compare):
                if isinstance(node.ops[0], (ast.Is, ast.IsNot)):
                    with self.subTest(file=path.name, line=node.lineno):
                        self.assertIn(getattr(node.comparators[0], "value", ""), (None, True, False))


if __name__ == "__main__":
    unittest.main()
