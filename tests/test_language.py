"""The package keeps to the part of Python that is asked for, as far as a walk through its files can tell."""

import ast
import pathlib
import re
import unittest

PACKAGE = pathlib.Path(__file__).resolve().parent.parent / "keptrows"

STATEMENTS = (
    ast.Assign, ast.AugAssign, ast.If, ast.While, ast.For, ast.Return, ast.Break, ast.Continue, ast.Pass, ast.Raise,
    ast.Try, ast.Expr, ast.FunctionDef, ast.ClassDef, ast.ImportFrom,
)
EXPRESSIONS = (
    ast.Constant, ast.List, ast.Tuple, ast.Dict, ast.BinOp, ast.UnaryOp, ast.BoolOp, ast.Compare, ast.IfExp, ast.Call,
    ast.Attribute, ast.Subscript, ast.Slice, ast.ListComp, ast.Name, ast.Lambda, ast.JoinedStr, ast.FormattedValue,
)
TOP = (ast.Expr, ast.ImportFrom, ast.FunctionDef, ast.ClassDef, ast.Assign)
OWN_NAMES = """len range enumerate zip min max sum abs sorted reversed int str bool list tuple dict set frozenset
    isinstance ord repr any all divmod Exception ValueError TypeError KeyError IndexError LookupError ZeroDivisionError
    ArithmeticError OverflowError RuntimeError NotImplementedError AttributeError StopIteration""".split()
METHODS = """append clear copy count endswith extend find get index insert isalnum isalpha isdigit islower isspace
    isupper items join keys ljust lower lstrip partition pop remove replace reverse rfind rjust rpartition rsplit
    rstrip setdefault split splitlines startswith strip update upper values zfill bit_length""".split()
UNUSED_WORDS = """type typing typing_extensions enum Enum IntEnum StrEnum Flag IntFlag Generic Protocol ABC ABCMeta
    namedtuple NamedTuple TypedDict TYPE_CHECKING abstractmethod register mro elements""".split()
PYTHON_NAMES = set(dir(__builtins__) if not isinstance(__builtins__, dict) else __builtins__)


def bound_names(tree):
    names = []
    for node in ast.walk(tree):
        if isinstance(node, (ast.FunctionDef, ast.ClassDef)):
            names.append(node.name)
        elif isinstance(node, ast.arg):
            names.append(node.arg)
        elif isinstance(node, (ast.Name, ast.Attribute)) and isinstance(node.ctx, ast.Store):
            names.append(node.id if isinstance(node, ast.Name) else node.attr)
        elif isinstance(node, ast.ImportFrom):
            names.extend(alias.asname or alias.name for alias in node.names)
    return names


class LanguageTest(unittest.TestCase):
    def setUp(self):
        self.paths = sorted(PACKAGE.glob("*.py"))
        self.texts = {path.name: path.read_text(encoding="utf-8") for path in self.paths}
        self.trees = {name: ast.parse(text) for name, text in self.texts.items()}

    def nodes(self):
        return [(name, node) for name, tree in self.trees.items() for node in ast.walk(tree)]

    def test_nothing_but_plainly_named_files_lies_in_the_package(self):
        self.assertIn("__init__.py", self.texts)
        for path in PACKAGE.iterdir():
            if path.name != "__pycache__":
                self.assertRegex(path.name, r"^[a-z0-9_]+\.py$")

    def test_signs_and_sizes(self):
        for name, text in self.texts.items():
            self.assertRegex(text, r"\A[ -~\n]*\Z", name)
            self.assertLessEqual(len(text.splitlines()), 400, name)
            self.assertLessEqual(max(len(row) for row in text.splitlines()), 120, name)
        for name, node in self.nodes():
            if isinstance(node, ast.FunctionDef):
                self.assertLessEqual(node.end_lineno - node.lineno + 1, 40, (name, node.name))

    def test_words_that_stand_nowhere(self):
        for name, text in self.texts.items():
            for word in re.findall(r"\w+", text):
                self.assertNotIn(word, UNUSED_WORDS, name)
                self.assertNotRegex(word, "dataclass|overload|contextmanager", name)

    def test_statements_and_expressions(self):
        for name, tree in self.trees.items():
            for node in tree.body:
                self.assertIsInstance(node, TOP, (name, node.lineno))
        for name, node in self.nodes():
            if isinstance(node, ast.stmt):
                self.assertIsInstance(node, STATEMENTS, (name, node.lineno))
            elif isinstance(node, ast.expr):
                self.assertIsInstance(node, EXPRESSIONS, (name, node.lineno))
            if isinstance(node, ast.Constant):
                self.assertIsInstance(node.value, (int, str, type(None)), (name, node.lineno))
            self.assertNotIsInstance(node, (ast.Div, ast.MatMult), name)
            self.assertFalse(getattr(node, "decorator_list", []), name)
            if isinstance(node, (ast.For, ast.While)):
                self.assertFalse(node.orelse, (name, node.lineno))
            if isinstance(node, ast.Assign):
                self.assertEqual(len(node.targets), 1, (name, node.lineno))

    def test_is_stands_beside_none_true_and_false_alone(self):
        for name, node in self.nodes():
            if isinstance(node, ast.Compare) and isinstance(node.ops[0], (ast.Is, ast.IsNot)):
                self.assertIsInstance(node.comparators[0], ast.Constant, (name, node.lineno))
                self.assertIn(node.comparators[0].value, (None, True, False), (name, node.lineno))

    def test_imports_are_the_packages_own_at_the_top(self):
        for name, node in self.nodes():
            if isinstance(node, ast.ImportFrom):
                self.assertEqual((node.level, node.col_offset), (0, 0), (name, node.lineno))
                self.assertRegex(node.module, r"^keptrows\.[a-z_]+$", (name, node.lineno))
                defined = bound_names(self.trees[node.module.split(".")[1] + ".py"])
                for alias in node.names:
                    self.assertIn(alias.name, defined, (name, node.lineno))

    def test_names(self):
        for name, tree in self.trees.items():
            bound = bound_names(tree)
            for word in bound:
                if word != "__init__":
                    self.assertRegex(word, r"^[A-Za-z][A-Za-z0-9_]*$", name)
                    self.assertNotIn(word, PYTHON_NAMES, name)
            for node in ast.walk(tree):
                if isinstance(node, ast.Name) and isinstance(node.ctx, ast.Load) and node.id not in bound:
                    self.assertIn(node.id, OWN_NAMES, (name, node.lineno))

    def test_methods(self):
        own = [node.name for name, node in self.nodes() if isinstance(node, ast.FunctionDef)]
        for name, node in self.nodes():
            if isinstance(node, ast.Call) and isinstance(node.func, ast.Attribute):
                self.assertIn(node.func.attr, own + METHODS, (name, node.lineno))

    def test_no_name_is_a_method_here_and_a_value_there(self):
        methods = []
        values = []
        for name, node in self.nodes():
            if isinstance(node, ast.ClassDef):
                methods.extend(part.name for part in node.body if isinstance(part, ast.FunctionDef))
                self.assertTrue(all(isinstance(part, (ast.FunctionDef, ast.Expr)) for part in node.body), name)
            elif isinstance(node, ast.Attribute) and isinstance(node.ctx, ast.Store):
                values.append(node.attr)
        self.assertEqual(set(methods) & set(values), set())

    def test_each_name_of_a_files_top_is_bound_once(self):
        for name, tree in self.trees.items():
            top = []
            for node in tree.body:
                if isinstance(node, ast.Assign):
                    top.append(node.targets[0].id)
                elif isinstance(node, (ast.FunctionDef, ast.ClassDef)):
                    top.append(node.name)
                elif isinstance(node, ast.ImportFrom):
                    top.extend(alias.asname or alias.name for alias in node.names)
            self.assertEqual(len(top), len(set(top)), name)


if __name__ == "__main__":
    unittest.main()
