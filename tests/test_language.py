"""The form of the package's files, as far as it can be read off them."""

import ast
import builtins
import re
import unittest
from pathlib import Path

PACKAGE = Path(__file__).resolve().parent.parent / "pointsayings"

WORDS_NOT_USED = (
    "type", "typing", "typing_extensions", "enum", "Enum", "IntEnum", "StrEnum", "Flag", "IntFlag", "Generic",
    "Protocol", "ABC", "ABCMeta", "namedtuple", "NamedTuple", "TypedDict", "TYPE_CHECKING", "abstractmethod",
)
STATEMENTS = (
    ast.FunctionDef, ast.ClassDef, ast.ImportFrom, ast.Assign, ast.AugAssign, ast.If, ast.While, ast.For, ast.Return,
    ast.Break, ast.Continue, ast.Pass, ast.Raise, ast.Try, ast.Expr,
)
NOT_USED = (
    ast.SetComp, ast.DictComp, ast.GeneratorExp, ast.NamedExpr, ast.Starred, ast.Div, ast.MatMult, ast.Await,
    ast.Yield, ast.YieldFrom, ast.AnnAssign,
)
OWN_NAMES_OF_PYTHON = (
    "len", "range", "enumerate", "zip", "min", "max", "sum", "abs", "sorted", "reversed", "int", "str", "bool", "list",
    "tuple", "dict", "set", "frozenset", "isinstance", "ord", "repr", "any", "all", "divmod", "Exception", "ValueError",
    "TypeError", "KeyError", "IndexError", "LookupError", "ZeroDivisionError", "ArithmeticError", "OverflowError",
    "RuntimeError", "NotImplementedError", "AttributeError", "StopIteration",
)

# The methods of Python's own values that may be called.
METHODS_OF_PYTHON = (
    "append", "clear", "copy", "count", "endswith", "extend", "find", "get", "index", "insert", "isalnum", "isalpha",
    "isdigit", "islower", "isspace", "isupper", "items", "join", "keys", "ljust", "lower", "lstrip", "partition", "pop",
    "remove", "replace", "reverse", "rfind", "rjust", "rpartition", "rsplit", "rstrip", "setdefault", "split",
    "splitlines", "startswith", "strip", "update", "upper", "values", "zfill", "bit_length",
)


def top_names(tree):
    """The names that are given a value at the file's top."""
    return [node.targets[0].id for node in tree.body if isinstance(node, ast.Assign)]


def imported_names(tree):
    return [alias.name for node in tree.body if isinstance(node, ast.ImportFrom) for alias in node.names]


def functions(tree):
    return [node for node in ast.walk(tree) if isinstance(node, ast.FunctionDef)]


def local_names(function):
    names = [argument.arg for argument in function.args.args]
    return names + [node.id for node in ast.walk(function) if isinstance(node, ast.Name) and isinstance(node.ctx, ast.Store)]


def bound_names(tree):
    """Every name that the file itself gives a meaning."""
    names = []
    for node in ast.walk(tree):
        if isinstance(node, (ast.FunctionDef, ast.ClassDef)):
            names.append(node.name)
        elif isinstance(node, ast.arg):
            names.append(node.arg)
        elif isinstance(node, ast.alias):
            names.append(node.asname or node.name)
        elif isinstance(node, ast.Name) and isinstance(node.ctx, ast.Store):
            names.append(node.id)
    return names


class Form(unittest.TestCase):
    def setUp(self):
        self.files = sorted(PACKAGE.glob("*.py"))
        self.trees = {file: ast.parse(file.read_text("ascii")) for file in self.files}

    def test_files(self):
        lying = sorted(path for path in PACKAGE.iterdir() if path.name != "__pycache__")
        self.assertEqual(lying, self.files)
        self.assertIn(PACKAGE / "__init__.py", self.files)

    def test_signs_and_size(self):
        for file in self.files:
            text = file.read_text("ascii")
            lines = text.split("\n")
            self.assertLessEqual(len(lines), 400, file)
            for number, line in enumerate(lines, start=1):
                self.assertLessEqual(len(line), 120, (file, number))
                self.assertTrue(all(" " <= sign <= "~" for sign in line), (file, number))
            for node in ast.walk(self.trees[file]):
                if isinstance(node, ast.FunctionDef):
                    self.assertLessEqual(node.end_lineno - node.lineno + 1, 40, (file, node.name))

    def test_words(self):
        for file in self.files:
            words = re.findall(r"\w+", file.read_text("ascii"))
            for word in WORDS_NOT_USED:
                self.assertNotIn(word, words, file)

    def test_imports(self):
        for file, tree in self.trees.items():
            for node in ast.walk(tree):
                self.assertNotIsInstance(node, ast.Import, file)
                if isinstance(node, ast.ImportFrom):
                    self.assertEqual(node.level, 0, file)
                    self.assertTrue(node.module.startswith("pointsayings."), file)
                    self.assertTrue((PACKAGE / (node.module.split(".")[1] + ".py")).is_file(), file)

    def test_statements_and_values(self):
        for file, tree in self.trees.items():
            for node in ast.walk(tree):
                where = (file, getattr(node, "lineno", 0))
                if isinstance(node, ast.stmt):
                    self.assertIsInstance(node, STATEMENTS, where)
                self.assertNotIsInstance(node, NOT_USED, where)
                if isinstance(node, ast.Assign):
                    self.assertEqual(len(node.targets), 1, where)
                if isinstance(node, ast.Constant):
                    self.assertNotIsInstance(node.value, (float, complex, bytes), where)
                if isinstance(node, (ast.For, ast.While)):
                    self.assertEqual(node.orelse, [], where)
                if isinstance(node, (ast.FunctionDef, ast.ClassDef)):
                    self.assertEqual(node.decorator_list, [], where)

    def test_names(self):
        for file, tree in self.trees.items():
            bound = bound_names(tree)
            for name in bound:
                self.assertNotIn(name, OWN_NAMES_OF_PYTHON, file)
                self.assertTrue(name == "__init__" or not name.startswith("_"), (file, name))
            for node in ast.walk(tree):
                if isinstance(node, ast.Name) and isinstance(node.ctx, ast.Load):
                    self.assertIn(node.id, tuple(bound) + OWN_NAMES_OF_PYTHON, file)

    def test_top_of_the_files(self):
        for file, tree in self.trees.items():
            self.assertIsInstance(ast.get_docstring(tree), str, file)
            above = []
            for node in tree.body[1:]:
                self.assertIsInstance(node, (ast.ImportFrom, ast.Assign, ast.FunctionDef, ast.ClassDef), file)
                if isinstance(node, ast.Assign):
                    for part in ast.walk(node.value):
                        self.assertIsInstance(part, (ast.Constant, ast.Tuple, ast.Name, ast.UnaryOp, ast.USub, ast.Load))
                        if isinstance(part, ast.Name):
                            self.assertIn(part.id, above, file)
                    above.append(node.targets[0].id)
                elif isinstance(node, (ast.FunctionDef, ast.ClassDef)):
                    above.append(node.name)
            self.assertEqual(len(above), len(set(above)), file)

    def test_locals(self):
        for file, tree in self.trees.items():
            classes = [node.name for node in tree.body if isinstance(node, ast.ClassDef)]
            taken = classes + imported_names(tree) + top_names(tree) + dir(builtins)
            for function in functions(tree):
                for name in local_names(function):
                    self.assertNotIn(name, taken, (file, function.name))

    def test_what_is_drawn_from_where(self):
        drawn = {}
        for file, tree in self.trees.items():
            modules = [node.module.split(".")[1] for node in tree.body if isinstance(node, ast.ImportFrom)]
            drawn[file.stem] = modules
            for node in tree.body:
                if isinstance(node, ast.ImportFrom):
                    other = self.trees[PACKAGE / (node.module.split(".")[1] + ".py")]
                    defined = top_names(other) + [one.name for one in other.body if hasattr(one, "name")]
                    for alias in node.names:
                        self.assertIn(alias.name, defined, file)
                        self.assertIsNone(alias.asname, file)
        while drawn:
            free = [name for name, modules in drawn.items() if not set(modules) & set(drawn)]
            self.assertNotEqual(free, [], "files draw from one another")
            for name in free:
                del drawn[name]

    def test_names_that_are_used(self):
        for file, tree in self.trees.items():
            used = [node.id for node in ast.walk(tree) if isinstance(node, ast.Name) and isinstance(node.ctx, ast.Load)]
            for name in imported_names(tree):
                self.assertIn(name, used, file)

    def test_methods(self):
        own = [node.name for tree in self.trees.values() for one in tree.body if isinstance(one, ast.ClassDef)
               for node in one.body if isinstance(node, ast.FunctionDef)]
        values = [node.attr for tree in self.trees.values() for node in ast.walk(tree)
                  if isinstance(node, ast.Attribute) and isinstance(node.ctx, ast.Store)]
        self.assertEqual(set(own) & set(values), set())
        for file, tree in self.trees.items():
            for node in ast.walk(tree):
                if isinstance(node, ast.Call) and isinstance(node.func, ast.Attribute):
                    self.assertIn(node.func.attr, tuple(own) + METHODS_OF_PYTHON, (file, node.lineno))
                elif isinstance(node, ast.Attribute) and node.attr not in own:
                    self.assertIn(node.attr, tuple(values) + METHODS_OF_PYTHON, (file, node.lineno))

    def test_comprehensions(self):
        for file, tree in self.trees.items():
            for node in ast.walk(tree):
                if isinstance(node, ast.ListComp):
                    self.assertEqual(len(node.generators), 1, (file, node.lineno))
                    self.assertLessEqual(len(node.generators[0].ifs), 1, (file, node.lineno))


if __name__ == "__main__":
    unittest.main()
